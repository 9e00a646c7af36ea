import Derived.Test.YtpapdkhjdelfcaaGreatMBW
namespace Go.Proofs.YtpapdkhjdelfcaaGreat
open Go.RowKit
set_option maxRecDepth 100000
set_option maxHeartbeats 4000000
def ZcR (pt:Bool) (a b c:Int) (B:List BK) (n m:Nat) (M:List EN):ByteArray:=({data:=#[67,80]}:jt)++Zaa [a,b,c] ⟨#[52,52,52]⟩ 3++Zag B B.length++Zaa [(n:Int),(m:Int),(M.length:Int)] ⟨#[50,50,50]⟩ 3++Zah pt B M M.length
theorem Ze9 (a b c:Int):(Zaa [a,b,c] ⟨#[52,52,52]⟩ 3).size=12:=by
 show (((ByteArray.empty++DF a 4)++DF b 4)++DF c 4).size=12;simp [ByteArray.size_append,Zae]
theorem Zfo (a b c:Int):(Zaa [a,b,c] ⟨#[50,50,50]⟩ 3).size=6:=by
 show (((ByteArray.empty++DF a 2)++DF b 2)++DF c 2).size=6;simp [ByteArray.size_append,Zae]
theorem Zec (a b c:Int):Zaa [a,b,c] ⟨#[52,52,52]⟩ 3=((ByteArray.empty++DF a 4)++DF b 4)++DF c 4:=rfl
theorem Zd2 (a b c:Int):Zaa [a,b,c] ⟨#[50,50,50]⟩ 3=((ByteArray.empty++DF a 2)++DF b 2)++DF c 2:=rfl
theorem ZdJ:Az (ByteArray.empty).data.toList=[]:=rfl
theorem Zel (a b c:Nat):Az (Zaa [(a:Int),(b:Int),(c:Int)] ⟨#[52,52,52]⟩ 3).data.toList=(Ax a 32++Ax b 32)++Ax c 32:=by
 rw [Zec];simp only [ByteArray.data_append,Array.toList_append,WH,Zam,ZdJ,List.nil_append,Nat.reduceMul]
theorem Zd3 (a b c:Nat):Az (Zaa [(a:Int),(b:Int),(c:Int)] ⟨#[50,50,50]⟩ 3).data.toList=(Ax a 16++Ax b 16)++Ax c 16:=by
 rw [Zd2];simp only [ByteArray.data_append,Array.toList_append,WH,Zam,ZdJ,List.nil_append,Nat.reduceMul]
theorem Zet {pt:Bool} {alg:Int} {a c d:Nat} {B:List BK} {n m:Nat} {M:List EN} (l:Fq alg=pt) (g:AL B) (f:∀x∈M,∃b∈B,b.1=x.1) (o:∀x∈M,Af x.2.1/\Af x.2.2):G6 a c d B n m (M.map (Zai B)) alg=Zad (ZcR pt a c d B n m M).data.toList:=by
 have p:Az (ZcR pt a c d B n m M).data.toList=Hl a c d B n m (M.map (Zai B)) alg:=by
  unfold ZcR;simp only [ByteArray.data_append,Array.toList_append,WH];have i:=Za7 (n:=B.length) l o g.1 f M.length (jH _);rw [List.take_length] at i;rw [Zel,Zd3,ZaX g _ (jH _),i,List.take_length];unfold Hl Jw Gd;simp only [List.append_assoc,List.nil_append,je]
 unfold G6 Zad
 have key:AK (Hl a c d B n m (M.map (Zai B)) alg)=(ZcR pt a c d B n m M).data.toList:=by
  rw [<-p];have k:=J4 (ZcR pt a c d B n m M).data.toList [];rw [List.append_nil] at k;rw [k];simp [AK]
 rw [key]
theorem Zd1 (f g:Nat) (c:Ac) (B:List BK) (E:List EI):(BJ f g c B E).take ((BJ f g c B E).length - 4)=AK (DS f g c B E):=by
 have h:(Cn (CB (AK (DS f g c B E)))).length=4:=rfl;unfold BJ;rw [jO,h,Nat.add_sub_cancel,List.take_left]
theorem ZdP {a:Int} {c:Ac} {B:List BK} {E:List EN} (b:Dh c a B E) (d:∀x∈E,Af x.2.1/\Af x.2.2) (g:0<=a):5<=(BJ 1 a.toNat c B (E.map (Zai B))).length/\(BJ 1 a.toNat c B (E.map (Zai B))).length<=9000000:=by
 have h:=Zcb (f:=1) (pt:=Fq c.alg) rfl b d ⟨ji,ji⟩ g;rw [show (1:Int).toNat=1 from rfl] at h;rw [h,Ze4];have e:(Zav (Fq c.alg) 1 a c B E).data.toList.length=(Zav (Fq c.alg) 1 a c B E).size:=rfl;have k:=ZbD b.2.2.1;have l:=ZbI (Fq c.alg) B E E.length;have i:c.key.size=16:=b.1.2.2.2.2.2.2.2.2.2.1;have m:=b.2.2.2.1;rw [e];unfold Zav;rw [if_pos rfl];simp only [jY,Zcg,Zae,i,show (({data:=#[67,72]}:jt)).size=2 from rfl];omega
def ZcZ (b g:Int) (i k:Ac) (c d:List BK) (f a:List EN) (t:jt):Prop:=∃n m,Zc4 f a n m/\t=Ai (G6 b.toNat (G9 b.toNat i c (f.map (Zai c))).toNat g.toNat d n m (((a.drop n).take (a.length - m - n)).map (Zai d)) k.alg)
theorem Ze8 (L pb:Nat) (o p:Ac) (c k:Int) (d l:List BK) (i a:List EN) (w:jj) (hA:Bz w L o c d i) (u:Dh o c d i) (M:∀x∈i,Af x.2.1/\Af x.2.2) (hB:Bz w pb p k l a) (f:Dh p k l a) (D:∀x∈a,Af x.2.1/\Af x.2.2) (q:0<=c) (N:0<=k):
  Calls Tryz.prog 57 #[.pointer (some ⟨L,0,none⟩),.pointer (some ⟨pb,0,none⟩)] w (En w (ZcZ c k o p d l i a)):=by
 have ag:=hA;have ah:=hB;obtain ⟨bc,O,_,a6,a7,a8,a3,P⟩:=hA;obtain ⟨ai,Q,_,b6,b7,b8,R,r⟩:=hB;have aj:=u.2.2.2.1;have ak:=f.2.2.2.1;have al:=u.2.1;have am:=f.2.1;go_enter Tryz.func57,Tryz.ntmps57;go_upto_region 1 with fail
 go_cut [5,6] (fun v5 v6 wc=>∃n m:Nat,v5= .int .i64 n/\v6= .int .i64 m/\n+m<=i.length/\n+m<=a.length/\Aa w wc/\Hid (Zc4 i a n m))
 case first=>
  go_region_held3 (fun w'=>Aa w w'/\w'.cell? ⟨L,8,none⟩=some O/\w'.cell? ⟨pb,8,none⟩=some Q) ((refine Jj ?_ a8 b8;exact jq)) ((go_at_call 106;refine (ZeL O Q i a _ (P.off.later jq) (r.off.later jq) aj ak).mono ?_;rintro e w4 ⟨n,m,rfl,an,v⟩;have E:=jp v;have hn:=v.2.2.2.1.1;have hm:=v.2.2.2.1.2;clear v))
  all_goals
   go_wp2;go_meet
   case rel=>exact ⟨n,m,rfl,rfl,hn,hm,jq,E⟩
 case rest=>
  obtain ⟨n,m,rfl,rfl,hn,hm,hb,E⟩:=hcut;go_wp2_with fail;refine (Zbg L o c d i 1 _ (ag.later hb) u ⟨ji,ji⟩ M ⟨ji,ji⟩ q).mono ?_;rintro e w1 ⟨t,rfl,ap,S⟩;have F:Hid (t=Ai (BJ 1 c.toNat o d (i.map (Zai d)))):=S;clear S
  have T:5<=t.size/\t.size<=9000000:=by
   have h1:t.size=(BJ 1 c.toNat o d (i.map (Zai d))).length:=by rw [F.out];simp [Ai,ByteArray.size]
   have h2:=ZdP u M q;omega
  obtain ⟨T,bd⟩:=T;go_wp2_with fail;have hz:(t.extract 0 (t.size - 4)).size=t.size - 4:=js
  have U:Hid ((t.extract 0 (t.size - 4)).data.toList=AK (DS 1 c.toNat o d (i.map (Zai d)))):=by
   show _=_;rw [Kr,List.drop_zero,Nat.sub_zero,F.out,Zau,show (Ai (BJ 1 c.toNat o d (i.map (Zai d)))).size=(BJ 1 c.toNat o d (i.map (Zai d))).length from by simp [Ai,ByteArray.size],Zd1]
  clear F;generalize t.extract 0 (t.size - 4)=tt at *;refine (Zbm tt _ (by unfold maxLen;omega)).mono ?_;rintro e w2 ⟨B,rfl,aq,y⟩
  have ar:Hid (B=((G9 c.toNat o d (i.map (Zai d))).toNat:Int)):=by
   show _=_;rw [y,U.out];rfl
  have be:0<=B:=by rw [y];omega
  have bf:B<4294967296:=by rw [y];have:=(CB tt.data.toList).isLt;omega
  clear y U;have G:=(hb.trans ap).trans aq;have q6:=G.cell a6;have r6:=G.cell b6;go_upto_region 4 with fail
  go_cut [9] (fun v9 wc=>∃z:jt,v9= .string z/\z.size<=27/\Aa w2 wc/\Hid (z=Zaa [c,B,k] ⟨#[52,52,52]⟩ 3))
  case first=>
   go_region_held3 (fun w'=>Aa w2 w'/\w'.cell? ⟨L,6,none⟩=some (.int .i64 c)/\w'.cell? ⟨pb,6,none⟩=some (.int .i64 k)) ((refine Jj ?_ q6 r6;exact jq)) ((go_at_call 76;refine (Zas _ 3 _ _ [c,B,k] _ rfl ji SV (by intro t V;match t,V with|0,_=>simp|1,_=>simp|2,_=>simp) (Aj.three al ⟨jo,jo⟩ am)).mono ?_;rintro e w4 ⟨z,rfl,an,hz⟩;have W:Hid (z=Zaa [c,B,k] ⟨#[52,52,52]⟩ 3):=hz;clear hz))
   all_goals
    go_wp2;go_meet
    case rel=>exact ⟨z,rfl,by rw [W.out,Ze9];omega,jq,W⟩
  case rest=>
   obtain ⟨z,rfl,bg,au,W⟩:=hcut;have H:=G.trans au;have s7:=H.cell b7;go_wp2_with fail;refine (ZbS l ai _ (R.later H) f.2.2.1).mono ?_;rintro e w3 ⟨X,rfl,av,Y⟩;have I:Hid (X=Zag l l.length):=Y;have a4:X.size<=81:=by rw [I.out];exact ZbD f.2.2.1
   clear Y;have Z:=H.trans av;have s8:=Z.cell b8;obtain ⟨ao,cap,rfl,aw⟩:=r.off;go_wp2_with fail;refine (Zas _ 3 _ _ [(n:Int),m,a.length - n - m] _ rfl ji RI (by intro t V;match t,V with|0,_=>simp|1,_=>simp|2,_=>simp) (Aj.three ⟨jo,jo⟩ ⟨jo,jo⟩ ⟨jo,jo⟩)).mono ?_;rintro e w5 ⟨kk,rfl,bh,aa⟩;have J:Hid (kk=Zaa [(n:Int),m,a.length - n - m] ⟨#[50,50,50]⟩ 3):=aa;have a5:kk.size<=27:=by rw [J.out,Zfo];omega
   clear aa;have A:Aa w w5:=Z.trans jq;have t8:=A.cell b8;go_upto_region 7 with fail
   have s:a.length<=cap:=by
    rcases r.form with ⟨h1,h2⟩|⟨g,a9,h1,h2,_⟩
    .simp [h2]
    .simp only [Value.slice.injEq] at h1;omega
   have ax:=fun wx=>SE wx ao a.length cap n m hm s
   have bi:IntKind.i64.wrap ((a.length:Int) - (m:Int))=(a.length:Int) - (m:Int):=by rw [IntKind.wrap_i64];omega
   go_cut [12] (fun ay wc=>∃z:jt,ay= .string z/\z.size<=3780000/\Aa w5 wc/\Hid (z=Zah (Fq p.alg) l ((a.drop n).take (a.length - m - n)) ((a.drop n).take (a.length - m - n)).length))
   case first=>
    have az:Eb w (.slice ao a.length cap) a:=⟨ao,cap,rfl,aw⟩;have hcut:=az.cut hm s;have a0:((a.drop n).take (a.length - m - n)).length<=140000:=jx
    have b:∀x∈(a.drop n).take (a.length - m - n),x∈a:=fun x hx=>List.mem_of_mem_drop (List.mem_of_mem_take hx)
    go_region_held3 (fun w'=>Aa w5 w'/\w'.cell? ⟨pb,8,none⟩=some (.slice ao a.length cap)/\True) ((exact ⟨jq,Aa.cell jq t8,trivial⟩)) ((go_at_call 103;refine (ZbN pb p k l a _ _ _ (ah.later (A.trans jq)) f.2.2.1.1 (hcut.later (A.trans jq)) a0 (fun x hx=>⟨f.2.2.2.2.1 x (b x hx),(D x (b x hx)).1.i64,(D x (b x hx)).2.i64⟩)).mono ?_;rintro e w6 ⟨z6,rfl,bj,ab⟩;have ac:Hid (z6=Zah (Fq p.alg) l ((a.drop n).take (a.length - m - n)) ((a.drop n).take (a.length - m - n)).length):=ab;clear ab))
    all_goals
     go_wp2;go_meet
     case rel=>exact ⟨z6,rfl,by rw [ac.out];exact jX (ZbI _ _ _ _) jo,jq,ac⟩
   case rest=>
    obtain ⟨K,rfl,ba,bb,C⟩:=hcut;clear ax;go_wp2_with fail
    have bk:(({data:=#[67,80]}:jt)++z++X++kk++K).size<=8990000:=by
     simp only [jY,show (({data:=#[67,80]}:jt)).size=2 from rfl];omega
    have ad:Hid ((({data:=#[67,80]}:jt)++z++X++kk++K)=ZcR (Fq p.alg) c B k l n m ((a.drop n).take (a.length - m - n))):=by
     show _=_
     have hl:(((a.drop n).take (a.length - m - n)).length:Int)=(a.length:Int) - n - m:=by
      rw [jk,jh];omega
     unfold ZcR;rw [W.out,I.out,J.out,C.out,hl]
    have ae:Hid (∀t,t=Ai (Zad (ZcR (Fq p.alg) c B k l n m ((a.drop n).take (a.length - m - n))).data.toList)->ZcZ c k o p d l i a t):=fun t V=>by
     refine ⟨n,m,E.out,?_⟩;have b:∀x∈(a.drop n).take (a.length - m - n),x∈a:=fun x hx=>List.mem_of_mem_drop (List.mem_of_mem_take hx)
     rw [Zet (pt:=Fq p.alg) rfl f.2.2.1 (fun x hx=>f.2.2.2.2.1 x (b x hx)) (fun x hx=>D x (b x hx)),Int.toNat_of_nonneg q,Int.toNat_of_nonneg N,<-ar.out];exact V
    clear W I J C;generalize (({data:=#[67,80]}:jt)++z++X++kk++K)=a1 at *;refine (ZaH a1 _ jo).mono ?_;rintro e w7 ⟨t7,rfl,bl,af⟩;have a2:Hid (ZcZ c k o p d l i a t7):=ae.out t7 (by rw [<-ad.out];exact af);clear af ae ad;go_wp2;go_ret;exact ⟨_,rfl,A.trans jq,a2.out⟩
theorem ZdY {c a:List BK} (q:AH c) (r:AH a) {x y:EN} (hx:∃b∈c,b.1=x.1) (f:∃b∈a,b.1=y.1) (g:Af x.2.1/\Af x.2.2) (wy:Af y.2.1/\Af y.2.2):CT c a (Zai c x)=Zai a y↔x=y:=by
 obtain ⟨i,k,s⟩:=ZcS hx;obtain ⟨j,t,l⟩:=ZcS f;have u:A7 c ((Bq x.1 c:Nat):Int)=x.1:=by rw [<-s,RM q.2 k,IY k]
 unfold CT Zai;simp only;rw [u,Prod.mk.injEq,ZdW g.1 g.2 wy.1 wy.2];constructor
 .rintro ⟨⟨m,n⟩,d⟩
  have o:Bq x.1 a<a.length:=by
   unfold Dr at d;split at d
   .assumption
   .omega
  have v:=Ho o;unfold Dr at d;rw [if_pos o] at d;have w:Bq x.1 a=j:=by rw [<-l,RM r.2 t] at d;omega
  have p:x.1=y.1:=by rw [<-v,<-l];congr 1;exact getElem_congr_idx w
  obtain ⟨z,A,B⟩:=x;obtain ⟨C,D,E⟩:=y;simp only at m n p;rw [m,n,p]
 .rintro rfl;refine ⟨⟨rfl,rfl⟩,?_⟩;unfold Dr;rw [if_pos (Lh f)]
theorem ZeC {a c:List BK} (r:AH a) (s:AH c) {A B:List EN} (t:∀x∈A,∃b∈a,b.1=x.1) (u:∀x∈B,∃b∈c,b.1=x.1) (v:∀x∈A,Af x.2.1/\Af x.2.2) (w:∀x∈B,Af x.2.1/\Af x.2.2) {n m:Nat} (h:Zc4 A B n m):
  Cu ((A.map (Zai a)).map (CT a c)) (B.map (Zai c))=n/\EE (((A.map (Zai a)).map (CT a c)).drop n) ((B.map (Zai c)).drop n)=m:=by
 have key:∀i j (d:i<A.length) (k:j<B.length),CT a c (Zai a A[i])=Zai c B[j]↔Zcx A B i j:=fun i j d k=>
  (ZdY r s (t _ (jJ d)) (u _ (jJ k)) (v _ (jJ d)) (w _ (jJ k))).trans ⟨fun e=>⟨d,k,e⟩,fun ⟨_,_,e⟩=>e⟩
 obtain ⟨⟨y,z⟩,C,D,⟨H,I⟩,E,F⟩:=h;constructor
 .refine JN n _ _ (by simpa using y) (by simpa using z) (fun i f g d=>?_) (fun f g=>?_)
  .rw [List.getElem_map,List.getElem_map,List.getElem_map];exact (key i i (by simpa using f) (by simpa using g)).2 (C i d)
  .rw [List.getElem_map,List.getElem_map,List.getElem_map];exact fun e=>D ((key n n (by simpa using f) (by simpa using g)).1 e)
 .have p:(((A.map (Zai a)).map (CT a c)).drop n).length=A.length - n:=js
  have q:((B.map (Zai c)).drop n).length=B.length - n:=js
  refine Mj m _ _ jo jo (fun i f g d=>?_) (fun f g=>?_)
  .rw [List.getElem_drop,List.getElem_drop,List.getElem_map,List.getElem_map,List.getElem_map];have e:=E i d;have l:n+((((A.map (Zai a)).map (CT a c)).drop n).length - 1 - i)=A.length - 1 - i:=by rw [p];omega
   have o:n+(((B.map (Zai c)).drop n).length - 1 - i)=B.length - 1 - i:=by rw [q];omega
   have G:=(key (A.length - 1 - i) (B.length - 1 - i) jo jo).2 e;rw [getElem_congr_idx l,getElem_congr_idx o];exact G
  .rw [List.getElem_drop,List.getElem_drop,List.getElem_map,List.getElem_map,List.getElem_map];have l:n+((((A.map (Zai a)).map (CT a c)).drop n).length - 1 - m)=A.length - 1 - m:=by rw [p];omega
   have o:n+(((B.map (Zai c)).drop n).length - 1 - m)=B.length - 1 - m:=by rw [q];omega
   intro e;rw [getElem_congr_idx l,getElem_congr_idx o] at e;exact F jo jo ((key (A.length - 1 - m) (B.length - 1 - m) jo jo).1 e)
theorem Zeu {g i:jy} {q r:Nat} {o p:Int} {k l:Ac} {a c:List BK} {d f:List EN} {t:jt} (s:Bj g=some (q,o.toNat,{k with formats:=0},a,d.map (Zai a))) (u:Bj i=some (r,p.toNat,{l with formats:=0},c,f.map (Zai c))) (v:k=l) (w:AH a) (y:AH c) (z:∀x∈d,∃b∈a,b.1=x.1) (A:∀x∈f,∃b∈c,b.1=x.1) (B:∀x∈d,Af x.2.1/\Af x.2.2) (C:∀x∈f,Af x.2.1/\Af x.2.2) (D:ZcZ o p k l a c d f t):(Ai (DN g i).1=t)/\(DN g i).2=0:=by
 obtain ⟨n,m,E,rfl⟩:=D;obtain ⟨F,G⟩:=ZeC w y z A B C E;subst v;unfold DN;rw [s,u];simp only [if_true];rw [F,G];refine ⟨?_,trivial⟩;rw [je,<-List.map_drop,<-List.map_take];rfl
theorem Zes {S:jy} {alg:Int} {a h o r t i u:jt} {f k l c m d:Bool} {b s g:Int} {L:List BK} (A:CQ S=some a.data.toList)
  (v:(Zcp a false).bind (DU 2)=(Zcp o f).map (Prod.mk h.data.toList)) (B:(Zcp o f).bind (A9 32)=(Zcp r k).map (Prod.mk b.toNat)) (C:(Zcp r k).bind (A9 32)=(Zcp t l).map (Prod.mk s.toNat)) (D:(Zcp t l).bind (A9 32)=(Zcp i c).map (Prod.mk g.toNat)) (w:ZcX i c L d u m):
  (h.data.toList=[67,80]/\d=true->Dl alg S=Ko alg b.toNat s.toNat g.toNat L (Zcp u m))/\(¬(h.data.toList=[67,80]/\d=true)->Dl alg S=none):=by
 have x:(Zcp o f).bind Ny=(Zcp i c).map (Prod.mk (b.toNat,s.toNat,g.toNat)):=Bw B (Bw C (Bw D (Q:=fun g:Nat=>DT (b.toNat,s.toNat,g)) (GK _)) (Q:=fun s:Nat=>Bo (A9 32) fun g:Nat=>DT (b.toNat,s,g))) (Q:=fun b:Nat=>Bo (A9 32) fun s:Nat=>Bo (A9 32) fun g:Nat=>DT (b,s,g))
 have z:Dl alg S=JO alg (Zcp a false):=by
  unfold Dl;rw [A];rfl
 have p:d=false->J3 alg b.toNat s.toNat g.toNat (Zcp i c)=none:=fun e=>by
  have q:=w.2 e;unfold J3 Eg;cases E:(Zcp i c).bind Ie with
  |none=>rfl
  |some y=>exact if_neg (q y.1 y.2 E)
 constructor
 .rintro ⟨n,F⟩;obtain ⟨I,G,H⟩:=w.1 F;rw [z,RV v,if_pos n,T7 x,Xj H,if_pos G]
 .intro q;rw [z,RV v];by_cases n:h.data.toList=[67,80]
  .rw [if_pos n,T7 x];cases d
   .exact p rfl
   .exact absurd ⟨n,rfl⟩ q
  .rw [if_neg n]
theorem Zfi {alg:Int} {b s g:Nat} {L:List BK} {c d f i:jt} {a l o p:Bool} {n m k:Int} (q:(Zcp c a).bind (A9 16)=(Zcp d l).map (Prod.mk n.toNat)) (r:(Zcp d l).bind (A9 16)=(Zcp f o).map (Prod.mk m.toNat)) (t:(Zcp f o).bind (A9 16)=(Zcp i p).map (Prod.mk k.toNat)):Ko alg b s g L (Zcp c a)=JX alg b s g L n.toNat m.toNat k.toNat (Zcp i p):=
 Zd (Bw q (Bw r (Bw t (Q:=fun k:Nat=>DT (n.toNat,m.toNat,k)) (GK _)) (Q:=fun m:Nat=>Bo (A9 16) fun k:Nat=>DT (n.toNat,m,k))) (Q:=fun n:Nat=>Bo (A9 16) fun m:Nat=>Bo (A9 16) fun k:Nat=>DT (n,m,k)))
theorem Zeg {wp wo:Nat} {X:jz} (h:wp+wo<=X.length):∃e,FB wp wo X=some (e,X.drop (wp+wo)):=by
 unfold FB Bo A9;rw [if_neg jo,Option.bind_some];simp only;rw [if_neg (by rw [jh];omega),Option.bind_some];exact ⟨((AD (X.take wp):Nat),(AD ((X.drop wp).take wo):Nat)),by simp only [DT,List.drop_drop]⟩
theorem Zfn {wp wo:Nat} {X:jz}:∀n,n * (wp+wo)<=X.length->∃E,BY (FB wp wo) n X=some (E,X.drop (n * (wp+wo))):=by
 intro n
 induction n with
 |zero=>intro _;exact ⟨[],by simp [BY]⟩
 |succ n ih=>
  intro h;rw [Nat.succ_mul] at h;obtain ⟨E,a⟩:=ih jo;obtain ⟨e,b⟩:=Zeg (wp:=wp) (wo:=wo) (X:=X.drop (n * (wp+wo))) (by rw [jh];omega);refine ⟨E++[e],?_⟩;rw [BY,a,Option.bind_some];simp only;rw [b,List.drop_drop,Nat.succ_mul];rfl
theorem Ze3 {alg:Int} {b s g ah bh k a:Nat} {L:List BK} {r:jt} (c:CO alg+CX 1 alg L.length=8 * a) (h:r.size≠k * a):JX alg b s g L ah bh k (Zcp r false)=none:=by
 unfold JX Eg;cases f:(Zcp r false).bind (BY (FB (CO alg) (CX 1 alg L.length)) k) with
 |none=>rfl
 |some y=>
  have d:=Zdt (E:=y.1) (Y:=y.2) f;rw [Bk,c] at d;have i:r.data.toList.length=r.size:=rfl;have l:k * (8 * a)=8 * (k * a):=by rw [Nat.mul_left_comm]
  rw [i,l] at d;refine if_neg fun m=>?_
  have:=(Zdy m).1;generalize k * a=q at *;omega
theorem ZeE {alg:Int} {b s g ah bh k l:Nat} {L:List BK} {r p:jt} {d f:Bool} {E:List EN} (i:CO alg+CX 1 alg L.length=8 * l) (h:r.size=k * l) (m:ZcG r false (CO alg) (CX 1 alg L.length) k L E f p d):∃M,JX alg b s g L ah bh k (Zcp r false)=some (b,s,g,L,ah,bh,M)/\(f=true->M=E.map (Zai L))/\(f=false->∃e∈M,(L.length:Int)<=e.2):=by
 have n:(Az r.data.toList).length=k * (CO alg+CX 1 alg L.length):=by
  rw [Bk,i,show r.data.toList.length=r.size from rfl,h,Nat.mul_left_comm]
 obtain ⟨M,o⟩:=Zfn (X:=Az r.data.toList) k (Nat.le_of_eq n.symm);rw [<-n,List.drop_length] at o;have a:(Zcp r false).bind (BY (FB (CO alg) (CX 1 alg L.length)) k)=some (M,[]):=o;refine ⟨M,?_,fun e=>?_,fun e=>m.2 e M [] a⟩
 .rw [XA (o':=some []) (M:=M) a];rfl
 .obtain ⟨q, -,c⟩:=m.1 e;rw [a,q] at c;injection c with c
  injection c
structure ZcT (li:jy) (ga:Int) (ca:Ac) (BA:List BK) (EA:List EN):Prop where
 img:∃f,Bj li=some (f,ga.toNat,{ca with formats:=0},BA,EA.map (Zai BA))
 good:AH BA
 ids:∀x∈EA,∃b∈BA,b.1=x.1
 w32:∀x∈EA,Af x.2.1/\Af x.2.2
theorem ZcT.nope {S a:jy} {c:Int} {b:Ac} {d:List BK} {g:List EN} (h:ZcT a c b d g) (i:Dl b.alg S=none):DH S a=([],9):=by
 obtain ⟨f,k⟩:=h.img;unfold DH;simp only [k,i]
theorem ZcT.base {S g:jy} {a:Int} {c:Ac} {d:List BK} {i:List EN} {b s k ah bh:Nat} {L:List BK} {M:List EI} (h:ZcT g a c d i) (l:Dl c.alg S=some (b,s,k,L,ah,bh,M)) (m:¬(b=a.toNat/\s=(G9 a.toNat c d (i.map (Zai d))).toNat)):DH S g=([],10):=by
 obtain ⟨f,n⟩:=h.img;unfold DH;simp only [n,l];exact if_neg m
theorem ZcT.on {S l:jy} {i:Int} {d:Ac} {a:List BK} {c:List EN} {b s g ah bh:Nat} {L:List BK} {M:List EI} (h:ZcT l i d a c) (n:Dl d.alg S=some (b,s,g,L,ah,bh,M)) (o:b=i.toNat/\s=(G9 i.toNat d a (c.map (Zai a))).toNat):(ah+bh<=c.length/\DR g d L (Gj ah bh M ((c.map (Zai a)).map (CT a L)))->DH S l=(BJ 1 g {d with formats:=0} L (Gj ah bh M ((c.map (Zai a)).map (CT a L))),0))/\(¬(ah+bh<=c.length/\DR g d L (Gj ah bh M ((c.map (Zai a)).map (CT a L))))->DH S l=([],9)):=by
 obtain ⟨f,p⟩:=h.img
 have q:DH S l=(if b=i.toNat/\s=(G9 i.toNat d a (c.map (Zai a))).toNat then if ah+bh<=(c.map (Zai a)).length then haveI:=Zf6 g d L (Gj ah bh M ((c.map (Zai a)).map (CT a L)));if DR g d L (Gj ah bh M ((c.map (Zai a)).map (CT a L))) then (BJ 1 g {d with formats:=0} L (Gj ah bh M ((c.map (Zai a)).map (CT a L))),0) else ([],9) else ([],9) else ([],10)):=by
  unfold DH;simp only [p,n];rfl
 rw [q,if_pos o,je];constructor
 .rintro ⟨k,m⟩;rw [if_pos k,if_pos m]
 .intro r;by_cases k:ah+bh<=c.length
  .rw [if_pos k,if_neg (fun m=>r ⟨k,m⟩)]
  .rw [if_neg k]
theorem Zds {c:Ac} {g ah bh:Nat} {L:List BK} {M O:List EI} (h:∃e∈Gj ah bh M O,e.2<0\/(L.length:Int)<=e.2):¬DR g c L (Gj ah bh M O):=by
 obtain ⟨e,a,d⟩:=h;intro b;obtain ⟨j,f,i, -⟩:=b.2.2.1 e a;omega
theorem ZfH {ah bh:Nat} {M O:List EI} {e:EI} (h:e∈M):e∈Gj ah bh M O:=by
 unfold Gj;exact jg _ (jU _ h)
theorem Zfk {d L:List BK} (o:AH d) (p:AH L) {a f:List EN} (q:∀x∈a,∃b∈d,b.1=x.1) (k:∀x∈a,Af x.2.1/\Af x.2.2) {n m g:Nat} (i:g=a.length - m) (c:∀x∈a.take n++f++a.drop g,∃b∈L,b.1=x.1):Gj n m (f.map (Zai L)) ((a.map (Zai d)).map (CT d L))=(a.take n++f++a.drop g).map (Zai L):=by
 have l:∀x∈a,(∃b∈L,b.1=x.1)->CT d L (Zai d x)=Zai L x:=fun x hx r=>(ZdY o p (q x hx) r (k x hx) (k x hx)).2 rfl
 unfold Gj;rw [je,je,<-i,List.map_append,List.map_append,List.map_map,<-List.map_take,<-List.map_drop];congr 1
 .congr 1;exact List.map_congr_left fun x hx=>l x (List.mem_of_mem_take hx) (c x (jg _ (jg _ hx)))
 .exact List.map_congr_left fun x hx=>l x (List.mem_of_mem_drop hx) (c x (jU _ hx))
theorem Zfh {a L:List BK} (s:AH a) {d o:List EN} (t:∀x∈d,∃b∈a,b.1=x.1) {n m p:Nat} (g:p=d.length - m) (u:∀x∈o,∃b∈L,b.1=x.1) (k:∃x∈d.take n++o++d.drop p,¬∃b∈L,b.1=x.1) {M:List EI}:∃e∈Gj n m M ((d.map (Zai a)).map (CT a L)),e.2<0\/(L.length:Int)<=e.2:=by
 obtain ⟨x,hx,f⟩:=k
 have c:∀x∈d,(¬∃b∈L,b.1=x.1)->(CT a L (Zai a x)).2<0:=fun x hx f=>by
  obtain ⟨i,q,v⟩:=ZcS (t x hx);have l:A7 a ((Bq x.1 a:Nat):Int)=x.1:=by rw [<-v,RM s.2 q,IY q]
  unfold CT Zai;simp only;rw [l];unfold Dr;rw [if_neg (fun r=>f ⟨_,jJ r,Ho r⟩)];decide
 unfold Gj;rw [je,je,<-g,List.map_map,<-List.map_take,<-List.map_drop];rcases jT.1 hx with h|h
 .rcases jT.1 h with h|h
  .exact ⟨_,jg _ (jg _ (List.mem_map.2 ⟨x,h,rfl⟩)),Or.inl (c x (List.mem_of_mem_take h) f)⟩
  .exact absurd (u x h) f
 .exact ⟨_,jU _ (List.mem_map.2 ⟨x,h,rfl⟩),Or.inl (c x (List.mem_of_mem_drop h) f)⟩
end Go.Proofs.YtpapdkhjdelfcaaGreat
