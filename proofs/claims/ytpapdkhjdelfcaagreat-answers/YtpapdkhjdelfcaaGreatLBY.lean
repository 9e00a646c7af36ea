import Derived.Test.YtpapdkhjdelfcaaGreatLBX
namespace Go.Proofs.YtpapdkhjdelfcaaGreat
open Go.RowKit
set_option maxRecDepth 100000
set_option maxHeartbeats 4000000
def Zai (B:List BK) (x:EN):EI:=(wv x.2.1 x.2.2,(Bq x.1 B:Int))
theorem ZaZ (n:Nat) (h:n<18446744073709551616):Hk (n:Int)=n:=by
 unfold Hk;omega
theorem Za9 {a b:Int} (c:Af a) (d:Af b):Ax (wv a b).toNat 64=Ax a.toNat 32++Ax b.toNat 32:=by
 obtain ⟨k,l⟩:=c;obtain ⟨m,n⟩:=d
 have e:(wv a b).toNat=a.toNat * 4294967296+b.toNat:=by
  unfold wv;omega
 rw [e,show (64:Nat)=32+32 from rfl,Zbj]
 have f:(a.toNat * 4294967296+b.toNat) / 2 ^ 32=a.toNat:=by
  rw [show (2:Nat) ^ 32=4294967296 from rfl];omega
 have g:=ZaY (a.toNat * 4294967296+b.toNat) 32
 have i:(a.toNat * 4294967296+b.toNat) % 2 ^ 32=b.toNat:=by
  rw [show (2:Nat) ^ 32=4294967296 from rfl];omega
 rw [f,<-g,i]
theorem Zbl {c:Bool} {alg:Int} {n:Nat} {B:List BK} {x:EN} (g:Fq alg=c) (d:Af x.2.1) (f:Af x.2.2) (l:B.length<=8) (m:Bq x.1 B<B.length):Az (Zal c B x).data.toList=MK (CO alg) (CX 1 alg n) (Zai B x):=by
 unfold Zal MK Zai CO CX;rw [g,ZaZ _ jo];cases c
 .simp only [Bool.false_eq_true,if_false];rw [Zam];rfl
 .simp only [if_true];rw [Za9 d f]
  have e:Zaa [x.2.1,x.2.2,(Bq x.1 B:Int)] ⟨#[52,52,49]⟩ 3=Ai ((DF x.2.1 4).data.toList++(DF x.2.2 4).data.toList++(DF (Bq x.1 B:Int) 1).data.toList):=by
   show ((ByteArray.empty++DF x.2.1 4)++DF x.2.2 4)++DF (Bq x.1 B:Int) 1=_;rw [ByteArray.empty_append];apply ByteArray.ext;simp [Ai,ByteArray.data_append]
  obtain ⟨a,i⟩:=jM d.1;obtain ⟨b,k⟩:=jM f.1;rw [e,Zau,WH,WH,i,k,Zam,Zam,Zam];rfl
theorem Zb0 {a:Bool} {alg:Int} {n:Nat} {B:List BK} {x:EN} (b:Fq alg=a) (c:Af x.2.1) (d:Af x.2.2) (f:B.length<=8) (g:Bq x.1 B<B.length):Z9 a (Gf n) B x=MK (CO alg) (CX 2 alg n) (Zai B x):=by
 unfold Z9 MK Zai CO CX;rw [b,ZaZ _ jo];cases a
 .simp [Ax]
 .simp only [if_true];rw [Za9 c d]
theorem Za7 {c:Bool} {alg:Int} {n:Nat} {B:List BK} {E:List EN} (g:Fq alg=c) (d:∀x∈E,Af x.2.1/\Af x.2.2) (i:B.length<=8) (a:∀x∈E,∃b∈B,b.1=x.1):∀k,k<=E.length->Az (Zah c B E k).data.toList=EW (CO alg) (CX 1 alg n) ((E.take k).map (Zai B))
 |0,_=>rfl
 |k+1,hk=>by
  have m:=Za7 (n:=n) g d i a k jo;have f:=jJ (l:=E) (n:=k) jo;have e:E.getD k (ByteArray.empty,0,0)=E[k]:=by rw [jV,jG jo,Option.getD_some]
  show Az (Zah c B E k++Zal c B (E.getD k (ByteArray.empty,0,0))).data.toList=_;rw [e,ByteArray.data_append,Array.toList_append,WH,m,Zbl (n:=n) g (d _ f).1 (d _ f).2 i (Lh (a _ f)),jQ jo,List.map_append];unfold EW;rw [List.flatMap_append];simp
theorem Zbf {α β:Type} {f g:α->List β}:∀(E:List α),(∀x∈E,f x=g x)->E.flatMap f=E.flatMap g
 |[],_=>rfl
 |a::E,h=>by
  rw [List.flatMap_cons,List.flatMap_cons,h a js,Zbf E (fun x b=>h x (jW _ b))]
theorem Zbs {d:Bool} {alg:Int} {n:Nat} {B:List BK} {E:List EN} (g:Fq alg=d) (f:∀x∈E,Af x.2.1/\Af x.2.2) (i:B.length<=8) (a:∀x∈E,∃b∈B,b.1=x.1):E.flatMap (Z9 d (Gf n) B)=EW (CO alg) (CX 2 alg n) (E.map (Zai B)):=by
 unfold EW;rw [List.flatMap_map];refine Zbf E (fun x c=>?_);exact Zb0 g (f _ c).1 (f _ c).2 i (Lh (a _ c))
theorem ZaX {B:List BK} (b:AL B):∀k,k<=B.length->Az (Zag B k).data.toList=Ax B.length (8 * 1)++(B.take k).flatMap Gk
 |0,_=>by
  show Az (DF B.length 1).data.toList=_;rw [Zam];simp
 |k+1,hk=>by
  have c:=ZaX b k jo;have d:=b.2 _ (jJ (l:=B) (n:=k) jo);have e:B.getD k (ByteArray.empty,0)=B[k]:=by rw [jV,jG jo,Option.getD_some]
  show Az (Zag B k++DF ((B.getD k (ByteArray.empty,0)).1.size:Int) 1++(B.getD k (ByteArray.empty,0)).1++DF (B.getD k (ByteArray.empty,0)).2 1).data.toList=_;rw [e];obtain ⟨f,a⟩:=jM d.2.2.1;simp only [ByteArray.data_append,Array.toList_append,WH];rw [c,Zam,a,Zam,jQ jo,List.flatMap_append];simp [Gk,a]
def Zav (b:Bool) (f a:Int) (c:Ac) (B:List BK) (E:List EN):ByteArray:=({data:=#[67,72]}:ByteArray)++Zaa [f,c.alg,a,c.slots,c.points,c.probes] ⟨#[49,49,52,50,49,49]⟩ 6++c.key++Zag B B.length++DF (E.length:Int) 2++(if f=1 then Zah b B E E.length else Ai (AK (E.flatMap (Z9 b (Gf B.length) B))))
theorem Zcg (a b c d e f:Int):(Zaa [a,b,c,d,e,f] ⟨#[49,49,52,50,49,49]⟩ 6).size=10:=by
 show ((((((ByteArray.empty++DF a 1)++DF b 1)++DF c 4)++DF d 2)++DF e 1)++DF f 1).size=10;simp only [jY,Zae];rfl
theorem ZbD {B:List BK} (a:AL B):(Zag B B.length).size<=81:=by
 have h:∀k,k<=B.length->(Zag B k).size<=1+10 * k:=by
  intro k
  induction k with
  |zero=>intro _;show (DF _ 1).size<=_;rw [Zae];omega
  |succ k ih=>
   intro c;have:=ih jo;have b:=a.2 _ (jJ (l:=B) (n:=k) jo);have e:B.getD k (ByteArray.empty,0)=B[k]:=by rw [jV,jG jo,Option.getD_some]
   show (Zag B k++DF ((B.getD k (ByteArray.empty,0)).1.size:Int) 1++(B.getD k (ByteArray.empty,0)).1++DF (B.getD k (ByteArray.empty,0)).2 1).size<=_;rw [e];simp only [jY,Zae];have:=b.2.1;omega
 have:=h _ (jH _);have:=a.1;omega
theorem ZbI (a:Bool) (B:List BK) (E:List EN) (k:Nat):(Zah a B E k).size<=9 * k:=by
 induction k with
 |zero=>exact jH _
 |succ k ih=>
  show (Zah a B E k++Zal a B (E.getD k (ByteArray.empty,0,0))).size<=_;rw [jY]
  have:(Zal a B (E.getD k (ByteArray.empty,0,0))).size<=9:=by
   unfold Zal;cases a
   .simp only [Bool.false_eq_true,if_false];rw [Zae];omega
   .simp only [if_true];rw [Za6];omega
  omega
theorem Zbc:∀(n:Nat) (L:List Bool),L.length<=n->8 * (AK L).length<=L.length+7:=by
 intro n
 induction n with
 |zero=>
  intro L h;obtain rfl:L=[]:=jS jo;simp [AK]
 |succ n ih=>
  intro L h;by_cases b:8<=L.length
  .have e:AK L=AK (L.take 8)++AK (L.drop 8):=by
    have:=ZaG (X:=L.take 8) (by rw [jk];omega) (L.drop 8);rw [List.take_append_drop] at this;exact this
   rw [e,jO,ZaQ (C:=L.take 8) (by rw [jk];omega)]
   have:=ih (L.drop 8) (by rw [jh];omega)
   rw [jh] at this
   simp only [List.length_cons,List.length_nil]
   omega
  .rcases Nat.eq_zero_or_pos L.length with a|a
   .obtain rfl:L=[]:=jS a;simp [AK]
   .rw [MX L a jo];simp only [List.length_cons,List.length_nil];omega
theorem Zbv {pt:Bool} {B:List BK} {E:List EN} (_hB:B.length<=8):(Ai (AK (E.flatMap (Z9 pt (Gf B.length) B)))).size<=9 * E.length+1:=by
 have h1:=Zbc _ (E.flatMap (Z9 pt (Gf B.length) B)) (jH _)
 have h2:(E.flatMap (Z9 pt (Gf B.length) B)).length<=67 * E.length:=by
  induction E with
  |nil=>simp
  |cons x E ih=>
   rw [List.flatMap_cons,jO,List.length_cons]
   have:(Z9 pt (Gf B.length) B x).length<=67:=by
    unfold Z9;have:=YF (n:=B.length);cases pt
    .simp [Bd];omega
    .simp [Bd];omega
   have:=ih (Zbc _ _ (jH _));omega
 have h3:(Ai (AK (E.flatMap (Z9 pt (Gf B.length) B)))).size=(AK (E.flatMap (Z9 pt (Gf B.length) B))).length:=by simp [Ai,ByteArray.size]
 omega
theorem Zce {a b c d e f:Int} (h:0<=a/\0<=b/\0<=c/\0<=d/\0<=e/\0<=f):Az (Zaa [a,b,c,d,e,f] ⟨#[49,49,52,50,49,49]⟩ 6).data.toList=((((Ax a.toNat 8++Ax b.toNat 8)++Ax c.toNat 32)++Ax d.toNat 16)++Ax e.toNat 8)++Ax f.toNat 8:=by
 obtain ⟨g,i,k,l,m,n⟩:=h;obtain ⟨a,rfl⟩:=jM g;obtain ⟨b,rfl⟩:=jM i;obtain ⟨c,rfl⟩:=jM k;obtain ⟨d,rfl⟩:=jM l;obtain ⟨e,rfl⟩:=jM m;obtain ⟨f,rfl⟩:=jM n;show Az ((((((ByteArray.empty++DF a 1)++DF b 1)++DF c 4)++DF d 2)++DF e 1)++DF f 1).data.toList=_;simp only [ByteArray.data_append,Array.toList_append,WH,Zam];rfl
theorem Zcb {d:Bool} {f a:Int} {c:Ac} {B:List BK} {E:List EN} (m:Fq c.alg=d) (g:Dh c a B E) (o:∀x∈E,Af x.2.1/\Af x.2.2) (u:1<=f/\f<=2) (r:0<=a):BJ f.toNat a.toNat c B (E.map (Zai B))=Zad (Zav d f a c B E).data.toList:=by
 obtain ⟨s, -,i, -,b, -⟩:=g;obtain ⟨v,w,y,z, -,A,C,D,F,G, -, -⟩:=s
 have t:Az (({data:=#[67,72]}:ByteArray)++Zaa [f,c.alg,a,c.slots,c.points,c.probes] ⟨#[49,49,52,50,49,49]⟩ 6++c.key++Zag B B.length++DF (E.length:Int) 2).data.toList=(JG f.toNat a.toNat c++Gd B)++Ax (E.map (Zai B)).length (8 * 2):=by
  simp only [ByteArray.data_append,Array.toList_append,WH];rw [Zce ⟨jo,jo,r,jo,jo,jo⟩,ZaX i _ (jH _),Zam,List.take_length,je];unfold JG Gd;simp only [List.append_assoc,List.nil_append]
 unfold BJ Zad
 have key:AK (DS f.toNat a.toNat c B (E.map (Zai B)))=(Zav d f a c B E).data.toList:=by
  unfold DS Zav;rw [<-t,J4];rw [ByteArray.data_append (l:=_++DF (E.length:Int) 2),Array.toList_append];congr 1;rcases (show f=1\/f=2 by omega) with rfl|rfl
  .rw [if_pos rfl,show (1:Int).toNat=1 from rfl];have p:=Za7 (n:=B.length) m o i.1 b E.length (jH _);rw [List.take_length] at p;have k:CX ((1:Nat):Int) c.alg B.length=CX 1 c.alg B.length:=rfl;rw [k,<-p];have q:=J4 (Zah d B E E.length).data.toList [];rw [List.append_nil] at q;rw [q];simp [AK]
  .rw [if_neg ji,show (2:Int).toNat=2 from rfl];have k:CX ((2:Nat):Int) c.alg B.length=CX 2 c.alg B.length:=rfl;rw [k,<-Zbs m o i.1 b];rfl
 rw [key]
theorem Zbg (p:Nat) (c:Ac) (f:Int) (B:List BK) (E:List EN) (a:Int) (w:World) (h:Bz w p c f B E) (G:Dh c f B E) (hf:Aj a) (S:∀x∈E,Af x.2.1/\Af x.2.2) (U:1<=a/\a<=2) (H:0<=f):
  Calls Tryz.prog 55 #[.pointer (some ⟨p,0,none⟩),.int .i64 a] w (En w (TQ (Ai (BJ a.toNat f.toNat c B (E.map (Zai B)))))):=by
 have hI:∀x∈E,Aj x.2.1/\Aj x.2.2:=fun x I=>⟨Af.i64 (S x I).1,Af.i64 (S x I).2⟩
 obtain ⟨R,V⟩:∃R,R=Ai (BJ a.toNat f.toNat c B (E.map (Zai B))):=⟨_,rfl⟩;rw [<-V]
 have HR:Hid (R=Ai (Zad (Zav (Fq c.alg) a f c B E).data.toList)):=by
  show R=_;rw [V,Zcb rfl G S U H]
 clear V;have h0:=h;obtain ⟨vB,vE,⟨c0,c1,c2,c3,c4,c5⟩,c6,c7,c8,W,J⟩:=h;obtain ⟨hc,hg,K,hE,L, -⟩:=G;obtain ⟨k1,k2,k3,k4, -,k5,k6,k7,k8,k9, -, -⟩:=hc;obtain ⟨alg,g,b,d,key,i⟩:=c;simp only at c0 c1 c2 c3 c4 c5 k1 k2 k3 k4 k5 k6 k7 k8 k9;go_enter Tryz.func55,Tryz.ntmps55;go_upto_region 1 with fail
 go_cut [5] (fun v5 wc=>∃z:ByteArray,v5= .string z/\z.size<=54/\Aa w wc/\Hid (z=Zaa [a,alg,f,g,b,d] ⟨#[49,49,52,50,49,49]⟩ 6))
 case first=>
  go_region_held3 (fun w'=>Aa w w'/\w'.cell? ⟨p,0,none⟩=some (.int .i64 alg)/\w'.cell? ⟨p,1,none⟩=some (.int .i64 g)/\w'.cell? ⟨p,2,none⟩=some (.int .i64 b)/\w'.cell? ⟨p,3,none⟩=some (.int .i64 d)/\w'.cell? ⟨p,6,none⟩=some (.int .i64 f)) ((refine K8 ?_ c0 c1 c2 c3 c6;(repeat (first|exact jD _|assumption|refine jA ?_|refine jB ?_|refine jC ?_|refine Aa.step_set ?_ (by simp <;>omega) _|refine jE ?_ (by assumption))))) ((go_at_call 76;refine (Zas _ 6 _ _ [a,alg,f,g,b,d] _ rfl (by decide) Rf (by intro t q;match t,q with|0,_=>simp|1,_=>simp|2,_=>simp|3,_=>simp|4,_=>simp|5,_=>simp) (Aj.six hf ⟨by omega,by omega⟩ hg ⟨by omega,by omega⟩ ⟨by omega,by omega⟩ ⟨by omega,by omega⟩)).mono ?_;rintro e w4 ⟨z,rfl,ae,X⟩;have M:Hid (z=Zaa [a,alg,f,g,b,d] ⟨#[49,49,52,50,49,49]⟩ 6):=X;clear X))
  all_goals
   go_wp2_with fail;go_meet
   case rel=>exact ⟨z,rfl,by rw [M.out,Zcg];omega,by (repeat (first|exact jD _|assumption|refine jA ?_|refine jB ?_|refine jC ?_|refine Aa.step_set ?_ (by simp <;>omega) _|refine jE ?_ (by assumption))),M.out⟩
 case rest=>
  obtain ⟨z,rfl,X,N,M⟩:=hcut;have d4:=N.cell c4;have d7:=N.cell c7;have d8:=N.cell c8;go_wp2_with fail;refine (ZbS B vB _ (W.later N) K).mono ?_;rintro e w1 ⟨n,rfl,r,O⟩;have s:Hid (n=Zag B B.length):=O;have ab:n.size<=81:=by rw [s.out];exact ZbD K
  clear O;have e4:=r.cell d4;have e8:=r.cell d8
  have Y:∃T cap,vE= .slice T E.length cap:=by
   obtain ⟨T,cap,hv,_⟩:=J.off;exact ⟨T,cap,hv⟩
  obtain ⟨T,cap,rfl⟩:=Y;go_wp2_with fail;refine (Ka (E.length:Int) 2 _ (by omega) (by omega) (by decide)).mono ?_;rintro e w2 ⟨o,rfl,u,P⟩;have v:Hid (o=DF (E.length:Int) 2):=P;have ac:o.size=2:=by rw [v.out,Zae]
  clear P;have f4:=u.cell e4;have f8:=u.cell e8;have y:=(N.trans r).trans u;by_cases A:a=1
  .subst A;go_wp2_with fail;refine (ZbN p _ f B E E _ _ (h0.later y) K.1 (J.off.later y) hE (fun x I=>⟨L x I,hI x I⟩)).mono ?_;rintro e w3 ⟨k,rfl,C,l⟩;have m:Hid (k=Zah (Fq alg) B E E.length):=l;have Q:k.size<=3780000:=by rw [m.out];exact jX (ZbI _ _ _ _) (by omega)
   clear l;have g4:=C.cell f4;go_wp2_with fail
   have Z:(({data:=#[67,72]}:ByteArray)++z++key++n++o++k).size<=8990000:=by
    simp only [jY,show (({data:=#[67,72]}:ByteArray)).size=2 from rfl];omega
   have D:Hid ((({data:=#[67,72]}:ByteArray)++z++key++n++o++k)=Zav (Fq alg) 1 f ⟨alg,g,b,d,key,i⟩ B E):=by
    show _=_;rw [M.out,s.out,v.out,m.out];rfl
   generalize (({data:=#[67,72]}:ByteArray)++z++key++n++o++k)=F at *;refine (ZaH F _ (by omega)).mono ?_;rintro e w5 ⟨t,rfl,aa,q⟩
   have HT:Hid (t=R):=by
    show t=R;rw [HR.out,<-D.out];exact q
   clear q;go_wp2;go_ret;exact ⟨_,rfl,by (repeat (first|exact jD _|assumption|refine jA ?_|refine jB ?_|refine jC ?_|refine Aa.step_set ?_ (by simp <;>omega) _|refine jE ?_ (by assumption))),HT.out⟩
  .have ad:(a==1)=false:=by simpa using A
   go_wp2_with fail;refine (Zb6 p _ f B E _ (h0.later y) K.1 hE L S).mono ?_;rintro e w3 ⟨k,rfl,C,l⟩;have m:Hid (k=Ai (AK (E.flatMap (Z9 (Fq alg) (Gf B.length) B)))):=l;have Q:k.size<=3780000:=by rw [m.out];exact jX (Zbv K.1) (by omega)
   clear l;have g4:=C.cell f4;go_wp2_with fail
   have Z:(({data:=#[67,72]}:ByteArray)++z++key++n++o++k).size<=8990000:=by
    simp only [jY,show (({data:=#[67,72]}:ByteArray)).size=2 from rfl];omega
   have D:Hid ((({data:=#[67,72]}:ByteArray)++z++key++n++o++k)=Zav (Fq alg) a f ⟨alg,g,b,d,key,i⟩ B E):=by
    show _=_;rw [M.out,s.out,v.out,m.out];unfold Zav;rw [if_neg A]
   generalize (({data:=#[67,72]}:ByteArray)++z++key++n++o++k)=F at *;refine (ZaH F _ (by omega)).mono ?_;rintro e w5 ⟨t,rfl,aa,q⟩
   have HT:Hid (t=R):=by
    show t=R;rw [HR.out,<-D.out];exact q
   clear q;go_wp2;go_ret;exact ⟨_,rfl,by (repeat (first|exact jD _|assumption|refine jA ?_|refine jB ?_|refine jC ?_|refine Aa.step_set ?_ (by simp <;>omega) _|refine jE ?_ (by assumption))),HT.out⟩
theorem Za8 {c:Ac} {B:List BK} {E:List EN} (h:BU c B E) (l:AH B) (f:∀x∈E,∃b∈B,b.1=x.1):E.map (Zai B)=An c B:=by
 have q:E.length=(An c B).length:=by
  have:=congrArg List.length h;simpa using this
 apply List.ext_getElem
 .simpa using q
 .intro i r s;have n:i<E.length:=by simpa using r
  have g:(E.map Fj)[i]'(by simpa using n)=((An c B).map (F7 B))[i]'(by simpa using s):=by
   have t:E.map Fj=(An c B).map (F7 B):=h;simp only [t]
  rw [List.getElem_map,List.getElem_map] at g;rw [List.getElem_map];unfold Fj F7 at g;injection g with e2 e3
  obtain ⟨b,u,k⟩:=f _ (jJ n);obtain ⟨m,v,rfl⟩:=List.getElem_of_mem u;unfold Zai
  have a:(E[i].1).size≠0:=by
   rw [<-k];have:=(l.1.2 _ (jJ v)).1;omega
  generalize (An c B)[i]=e at *;obtain ⟨w,o⟩:=e;simp only at e2 e3 |-;rw [e2];congr 1;unfold A7 at e3;by_cases p:o<0
  .rw [if_pos p] at e3;rw [e3] at a;exact absurd rfl a
  .rw [if_neg p] at e3;by_cases d:o.toNat<B.length
   .rw [jG d] at e3;simp only [Option.map_some,Option.getD_some] at e3;rw [e3,RM l.2 d];omega
   .rw [List.getElem?_eq_none jo] at e3;rw [e3] at a;exact absurd rfl a
theorem Zbw (W0:Aw) (s:Nat) (x:WG) (k:Nat) (hk:k<x.prs.length) (A B C:Int) (S:ByteArray) (w:World) (h:Ao W0 s x w) (hs:s<=150000) (hB:Aj B):
  Calls Tryz.prog 37 #[.pointer (some ⟨x.p,0,none⟩),.pointer (some ⟨(x.prs[k]).a,0,none⟩),AB 8 A B C S] w (Hg W0 x.p (s+1)):=by
 have hat:=h.pair_at k hk;have hput:=fun (t:ByteArray) (ht:t.size<=16777216) wx (b:Aa w wx)=>LH W0 s x k hk t wx (h.later b) hs jo
 have hmk:=Je (x.prs[k]).c (x.prs[k]).B hat.2.2.2.2.1 hat.2.2.2.1.1;have hpo1:=hat.2.2.2.1;have hcok:=hat.2.2.2.2.1;have hg0:=hat.2.2.2.2.2.1;obtain ⟨tb,htb⟩:∃tb,tb=Ai (I9 B (x.prs[k]).g.toNat (x.prs[k]).c (x.prs[k]).B (An (x.prs[k]).c (x.prs[k]).B)).1:=⟨_,rfl⟩;obtain ⟨n1,hn1⟩:∃n1,n1=(I9 B (x.prs[k]).g.toNat (x.prs[k]).c (x.prs[k]).B (An (x.prs[k]).c (x.prs[k]).B)).2:=⟨_,rfl⟩;have him0:=fun wx (b:Aa w wx)=>(Tj x.M (x.prs[k]).q (x.prs[k]).c (x.prs[k]).B (x.prs[k]).g.toNat B wx (by have:=hat.2.1.later b;rw [Int.toNat_of_nonneg hat.2.2.2.2.2.1.1];exact this) hmk hat.2.2.2.2.1 hat.2.2.2.1.1 (by have:=hat.2.2.2.2.2.1.2.1;omega)).mono (fun e w' hr=>(show e= .returned (.tuple #[.string tb,.int .i64 n1])/\Aa wx w' from by rw [htb,hn1];exact hr))
 have ht1:tb.size<=16777216:=by
  rw [htb,NG];exact Yh ((Ac.ok_iff _).1 hcok).1 hpo1.1 hmk
 have hput:=hput tb ht1;have HTB:=jp htb;have HN1:=jp hn1;clear htb hn1 ht1;clear hmk;have hend:∀wx,Aa w wx->Hid (Hg W0 x.p (s+1) (.returned (.bool true)) wx):=fun wx hb=>⟨rfl,x,(h.later hb).up jo,rfl⟩
 have hpoM:w.heap.size∉x.M:=fun e=>by have:=(h.2.2.2.2.1 _ e).2;omega
 generalize x.M=M0 at *;generalize x.prs[k]=y at *;have c0:=hat.1.1 0 _ rfl;have c8:=hat.1.1 8 _ rfl;have HV:=jp hat.2.2.2.2.2.2.1.unmask;generalize x.p=p at *;have hal:=jF c0;simp only at hal;have haw:∀wx,Aa w wx->y.a<wx.heap.size:=fun wx b=>jN hal b.size
 clear hat h;unfold AB;go_enter Tryz.func37,Tryz.ntmps37;go_wp2_with fail;obtain ⟨wo,hwo,hbo,o0,o1,o2,o3,o4⟩:=BV w (.int .i64 8) (.int .i64 A) (.int .i64 B) (.int .i64 C) (.string S) 28;rw [hwo];clear hwo;have k0:=hbo.cell c0;have k8:=hbo.cell c8;generalize w.heap.size=po at o0 o1 o2 o3 o4 hpoM |-;go_region_held3 (fun w'=>Aa wo w'/\w'.cell? ⟨y.a,0,none⟩=some (.pointer (some ⟨y.q,0,none⟩))/\w'.cell? ⟨po,2,none⟩=some (.int .i64 B)) ((exact ⟨jq,Aa.cell (a:=wo) jq k0,Aa.cell (a:=wo) jq o2⟩)) ((go_at_call 64;refine (him0 _ jq).mono ?_;rintro e w1 ⟨rfl,hb1⟩));have hbo1:Aa wo w1:=jq
 have hbw1:Aa w w1:=hbo.trans hbo1;have k8:=hbo1.cell k8;have o2':=hbo1.cell o2;have haw1:=haw _ hbw1;clear o0 o1 o2 o3 o4 k0 hbo hbo1 hb1 him0 c0 c8 haw hal;by_cases hf:B<1\/2<B
 .have hbb:(decide (B<1)||decide (2<B))=true:=by simpa using hf
  have hs1:I9 B y.g.toNat y.c y.B (An y.c y.B)=([],11):=by unfold I9;rw [if_neg jo]
  obtain rfl:tb=ByteArray.empty:=by rw [HTB.out,hs1];rfl
  obtain rfl:n1=11:=by rw [HN1.out,hs1]
  clear hput HV HTB HN1 hs1;go_wp2
  all_goals
   go_ret;exact (hend _ jq).out
 .have hbb:(decide (B<1)||decide (2<B))=false:=by simpa using hf
  rcases HV.out with ⟨hv,hgz⟩|⟨q,E,hv,hst,hok,hW,hte,hgn⟩
  .rw [hv] at k8;have hs1:I9 B y.g.toNat y.c y.B (An y.c y.B)=([],7):=by unfold I9;rw [if_pos jo,if_pos jo]
   obtain rfl:tb=ByteArray.empty:=by rw [HTB.out,hs1];rfl
   obtain rfl:n1=7:=by rw [HN1.out,hs1]
   clear hput HV HTB HN1 hs1;go_wp2
   all_goals
    go_ret;exact (hend _ jq).out
  .rw [hv] at k8;have hs1:I9 B y.g.toNat y.c y.B (An y.c y.B)=(BJ B.toNat y.g.toNat y.c y.B (An y.c y.B),0):=by unfold I9;rw [if_pos jo,if_neg jo]
   have HTE:Hid (tb=Ai (BJ B.toNat y.g.toNat y.c y.B (An y.c y.B))):=by show _=_;rw [HTB.out,hs1]
   obtain rfl:n1=0:=by rw [HN1.out,hs1]
   clear hst HV HTB HN1 hs1 hok hW hte hgn;go_wp2_with fail;refine (hput _ jq).mono ?_;rintro e w2 ⟨rfl,⟨x2,h2,hp2,hy2⟩,hfr⟩;have d2:=hfr ⟨po,2,none⟩ _ hpoM o2';have c8:=hy2.1.1 8 _ rfl;have hv2:=hy2.2.2.2.2.2.2.1.unmask;rw [hv] at c8 hv2;rcases hv2 with ⟨hv3, -⟩|⟨q2,E2,hv3,hst2,hok2,hW2,hte2, -⟩
   .cases hv3
   simp only [Value.pointer.injEq,Option.some.injEq,Addr.mk.injEq,and_true] at hv3;subst hv3;have him:=fun wx (b:Aa w2 wx)=>Zbg q y.c y.g y.B E2 B wx (hst2.later b) hok2 hB hW2 jo hg0.1
   rw [Za8 hte2 hpo1 hok2.2.2.2.2.1] at him;rw [<-HTE.out] at him;have heq:(tb.toList==tb.toList)=true:=FE.2 rfl;have H2:Hid (∀wx,Aa w2 wx->Hg W0 p (s+1) (.returned (.bool true)) wx):=fun wx hb=>⟨rfl,x2,h2.later hb,hp2⟩
   clear h2 hy2 hst2 hW2 hfr hput k8 hte2 hok2 HTE;go_wp2_with fail;go_region_held3 (fun w'=>Aa w2 w'/\w'.cell? ⟨y.a,8,none⟩=some (.pointer (some ⟨q,0,none⟩))/\w'.cell? ⟨po,2,none⟩=some (.int .i64 B)) ((exact ⟨jq,Aa.cell (a:=w2) jq c8,Aa.cell (a:=w2) jq d2⟩)) ((go_at_call 55;refine (him _ jq).mono ?_;rintro e w3 ⟨m,rfl,hb3,hm⟩;have hmt:m=tb:=hm;clear hm;subst m));have hb23:Aa w2 w3:=jq
   clear him;go_wp2
   all_goals
    go_ret;exact H2.out _ jq
theorem Za2 (l:List UInt8) (k:Nat):(Az l).take (8 * k)=Az (l.take k):=by
 induction l generalizing k with
 |nil=>simp [Az]
 |cons b l ih=>
  cases k with
  |zero=>rfl
  |succ k=>
   have e:Az (b::l)=BT b++Az l:=by simp [Az]
   have a:Az ((b::l).take (k+1))=BT b++Az (l.take k):=by simp [Az]
   rw [e,a,show 8 * (k+1)=8+8 * k by omega,<-In b,List.take_length_add_append,In,ih]
theorem Za0 (l:List UInt8) (k:Nat):(Az l).drop (8 * k)=Az (l.drop k):=by
 induction l generalizing k with
 |nil=>simp [Az]
 |cons b l ih=>
  cases k with
  |zero=>rfl
  |succ k=>
   have e:Az (b::l)=BT b++Az l:=by simp [Az]
   have a:Az ((b::l).drop (k+1))=Az (l.drop k):=js
   rw [e,a,show 8 * (k+1)=8+8 * k by omega,<-In b,List.drop_length_add_append,In,ih]
def Zab (l:List UInt8):Nat:=AD (Az l)
theorem Zbo (k:Nat) (l:List UInt8):A9 (8 * k) (Az l)=if l.length<k then none else some (Zab (l.take k),Az (l.drop k)):=by
 unfold A9 Zab;rw [Za2,Za0,Bk];by_cases h:l.length<k
 .rw [if_pos h,if_pos jo]
 .rw [if_neg h,if_neg jo]
theorem ZaP (l:List UInt8):AK (Az l)=l:=by
 have:=J4 l [];rw [List.append_nil] at this;rw [this];simp [AK]
theorem Zbt (k:Nat) (l:List UInt8):DU k (Az l)=if l.length<k then none else some (l.take k,Az (l.drop k)):=by
 unfold DU;rw [Za2,Za0,Bk,ZaP];by_cases h:l.length<k
 .rw [if_pos h,if_pos jo]
 .rw [if_neg h,if_neg jo]
theorem Za5 (l:List UInt8) (b:UInt8):Zab (l++[b])=256 * Zab l+b.toNat:=by
 unfold Zab;rw [Ly,Wq,In]
 have:AD (BT b)=b.toNat:=by
  unfold BT;rw [M5,Nat.mod_eq_of_lt b.toNat_lt]
 rw [this];omega
theorem ZaW (l:List UInt8):BQ l=(Zab l:Int):=by
 have h:∀n (l:List UInt8),l.length=n->BQ l=(Zab l:Int):=by
  intro n
  induction n with
  |zero=>
   intro l hl;obtain rfl:=jS hl;rfl
  |succ n ih=>
   intro l hl;have hne:l≠[]:=fun e=>by rw [e] at hl;simp at hl
   have hd:=List.dropLast_concat_getLast hne;generalize l.getLast hne=b at hd;have hDl:l.dropLast.length=n:=by rw [List.length_dropLast,hl];rfl
   generalize l.dropLast=D at *;rw [<-hd,Mm,Za5,ih D hDl];omega
 exact h _ l rfl
theorem Zbb (b:UInt8):Zab [b]=b.toNat:=by
 have:=Za5 [] b;simpa [Zab,AD,Az] using this
theorem Zca (l:List UInt8):BW (some (Az l))=decide (l=[]):=by
 cases l with
 |nil=>rfl
 |cons b l=>
  have a:=Bk (b::l);rw [List.length_cons] at a;rw [jK js];show (decide ((Az (b::l)).length<8) && decide (AD (Az (b::l))=0))=false;rw [jK jo];rfl
theorem Zaw {α β:Type} {P:List Bool->Option (α×List Bool)} {Q:α->List Bool->Option (β×List Bool)} {X Y:List Bool} {a:α} (h:P X=some (a,Y)):Bo P Q X=Q a Y:=by
 unfold Bo;rw [h];rfl
theorem ZaA {k:Nat} {l:List UInt8} (h:k<=l.length):A9 (8 * k) (Az l)=some (Zab (l.take k),Az (l.drop k)):=by
 rw [Zbo,if_neg jo]
theorem Zb7 {k:Nat} {l:List UInt8} (h:k<=l.length):DU k (Az l)=some (l.take k,Az (l.drop k)):=by
 rw [Zbt,if_neg jo]
theorem Za4 {b:List UInt8} (h:13<=b.length):JE (Az b)=some ((b.take 1,Zab ((b.drop 1).take 4),Zab ((b.drop 5).take 1),Zab ((b.drop 6).take 4),Zab ((b.drop 10).take 1),Zab ((b.drop 11).take 2)),Az (b.drop 13)):=by
 unfold JE;rw [Zaw (Zb7 (k:=1) jo)];rw [Zaw (ZaA (k:=4) (l:=b.drop 1) (by rw [jh];omega)),List.drop_drop];rw [Zaw (ZaA (k:=1) (l:=b.drop (1+4)) (by rw [jh];omega)),List.drop_drop];rw [Zaw (ZaA (k:=4) (l:=b.drop (1+4+1)) (by rw [jh];omega)),List.drop_drop];rw [Zaw (ZaA (k:=1) (l:=b.drop (1+4+1+4)) (by rw [jh];omega)),List.drop_drop];rw [Zaw (ZaA (k:=2) (l:=b.drop (1+4+1+4+1)) (by rw [jh];omega)),List.drop_drop];rfl
theorem Zbk {k:Nat} {X Y:List Bool} {a:List UInt8} (h:DU k X=some (a,Y)):X.length=8 * k+Y.length:=by
 unfold DU at h;split at h
 .cases h
 .injection h with h
  injection h with _ h
  rw [<-h,jh];omega
theorem ZaC {W:Nat} {X Y:List Bool} {a:Nat} (h:A9 W X=some (a,Y)):X.length=W+Y.length:=by
 unfold A9 at h;split at h
 .cases h
 .injection h with h
  injection h with _ h
  rw [<-h,jh];omega
theorem ZbA {b:List UInt8} {y:(List UInt8×Nat×Nat×Nat×Nat×Nat)×List Bool} (h:JE (Az b)=some y):13<=b.length:=by
 unfold JE at h;obtain ⟨l,m,a,h⟩:=Da h;obtain ⟨n,o,c,h⟩:=Da h;obtain ⟨p,q,d,h⟩:=Da h;obtain ⟨r,s,f,h⟩:=Da h;obtain ⟨t,u,g,h⟩:=Da h;obtain ⟨v,w,i,h⟩:=Da h;have k:=(Zbk a);have x:=(ZaC c);have z:=(ZaC d);have A:=(ZaC f);have B:=(ZaC g);have C:=(ZaC i);rw [Bk] at k;omega
theorem Za1 {l b:List UInt8} (h:CQ l=some b):F0 l=if b.length=13/\b.take 1=[81] then some (Zab ((b.drop 1).take 4),Zab ((b.drop 5).take 1),Zab ((b.drop 6).take 4),Zab ((b.drop 10).take 1),Zab ((b.drop 11).take 2)) else none:=by
 unfold F0;rw [h,Option.bind_some];cases c:JE (Az b) with
 |none=>
  have:¬13<=b.length:=fun e=>by rw [Za4 e] at c;cases c
  rw [if_neg jo];rfl
 |some y=>
  have f:=ZbA c;rw [Za4 f] at c;rw [<-Option.some.inj c,Option.bind_some,Zca];by_cases d:b.length=13
  .have e:b.drop 13=[]:=List.drop_eq_nil_of_le jo;by_cases a:b.take 1=[81]
   .rw [if_pos ⟨jL e,a⟩,if_pos ⟨d,a⟩]
   .rw [if_neg (fun k=>a k.2),if_neg (fun k=>a k.2)]
  .have e:b.drop 13≠[]:=fun e=>by
    have:=congrArg List.length e;rw [jh,List.length_nil] at this;omega
   rw [if_neg (fun k=>e (of_decide_eq_true k.1)),if_neg (fun k=>d k.1)]
end Go.Proofs.YtpapdkhjdelfcaaGreat
