import Derived.Test.YtpapdkhjdelfcaaGreatMBU
namespace Go.Proofs.YtpapdkhjdelfcaaGreat
open Go.RowKit
set_option maxRecDepth 100000
set_option maxHeartbeats 4000000
theorem Zc (Q:Aw) (s:Nat) (x:WG) (w:jj) (h:Ao Q s x w) (hs:s<=150000):
  Calls Tryz.prog 23 #[.pointer (some ⟨x.p,0,none⟩)] w (Ew w fun b=>b=true):=by
 have l:=h.2.2.2.2.2.2.2.2.2.1;have m:=h.2.2.2.2.2.2.2.2.2.2.1;have hn:=h.2.2.2.2.2.2.2.2.2.2.2.1.2.2;have G:=h.1.1 8 _ rfl;have N:=h.1.1 9 _ rfl;obtain ⟨R,S,o⟩:=CP l;obtain ⟨U,V,q⟩:=CP m
 have t:Hid (∀j,j<x.lss.length->∃u v D E L,R=some ⟨u,0,none⟩/\U=some ⟨v,0,none⟩/\w.cell? ⟨u,j,none⟩=some (.slice (some ⟨D,0,none⟩) L L)/\w.cell? ⟨v,j,none⟩=some (.slice (some ⟨E,0,none⟩) L L)/\∀f,Aa w f->Calls Tryz.prog 44 #[.slice (some ⟨D,0,none⟩) L L,.slice (some ⟨E,0,none⟩) L L] f (Ew f (Co True))):=fun j z=>by
  obtain ⟨u,W,c, -, -,H⟩:=Fo l jo;obtain ⟨v,X,d, -, -,I⟩:=Fo m jo;rw [o] at c;rw [q] at d;simp only [Value.slice.injEq,true_and] at c d;have F:=h.2.2.2.2.2.2.2.2.2.2.2.2.1 _ (jJ z);refine ⟨u,v,(x.lss[j]).g1,(x.lss[j]).g2,(x.lss[j]).T.length,c.1,d.1,(H j z).trans (by simp [z,sl]),(I j z).trans (by simp [z,sl]),fun f b=>?_⟩;refine (LQ (x.lss[j]).T (x.lss[j]).T _ _ f (Ap.of_owns (BG F.1 b)) (Ap.of_owns (BG F.2.1 b)) F.2.2 F.2.2).mono ?_;rintro e w' ⟨Y,Z,h2,h3⟩;exact ⟨Y,Z,h2,⟨fun _=>trivial,fun _=>h3.2 rfl⟩⟩
 rw [o] at G;rw [q] at N;generalize x.p=p at *;generalize x.lss.length=n at *;have aa:=jF G;clear h l m o q;go_enter Tryz.func23,Tryz.ntmps23;go_wp2;go_loopg [3] n (fun r i wr=>Aa w wr/\∃k:Nat,r=n - k/\k<=n/\i= .int .i64 k)
 case atStart=>exact ⟨jD _,0,jo,jo,rfl⟩
 case round=>
  obtain ⟨y,k,hr,hk,rfl⟩:=hrel;have d8:=y.cell G;have d9:=y.cell N;by_cases J:k<n
  .have A:decide ((k:Int)<(n:Int))=true:=jL jo;obtain ⟨u,v,D,E,L,rfl,rfl,O,P,B⟩:=t.out k J;have r1:=y.cell O;have r2:=y.cell P;have g:=fun f (b:Aa wr f)=>B f (y.trans b)
   clear t B O P;go_wp2_with fail;go_region_held3 (fun w'=>Aa wr w'/\w'.cell? ⟨p,8,none⟩=some (.slice (some ⟨u,0,none⟩) n S)/\w'.cell? ⟨p,9,none⟩=some (.slice (some ⟨v,0,none⟩) n V)/\w'.cell? ⟨u,k,none⟩=some (.slice (some ⟨D,0,none⟩) L L)/\w'.cell? ⟨v,k,none⟩=some (.slice (some ⟨E,0,none⟩) L L)) ((exact ⟨jq,Aa.cell (a:=wr) jq d8,Aa.cell (a:=wr) jq d9,Aa.cell (a:=wr) jq r1,Aa.cell (a:=wr) jq r2⟩)) ((go_at_call 44;refine (g _ jq).mono ?_;rintro e w2 ⟨b,rfl,ab,C⟩;obtain rfl:b=true:=(by first|exact C.2 trivial|simpa [Co] using C)));have K:Aa wr w2:=jq
   have M:=y.trans K;clear g;go_wp2;go_roundg (n - (k+1))
   case measure=>omega
   case rel=>exact ⟨M,k+1,rfl,jo,by go_num⟩
  .have A:decide ((k:Int)<(n:Int))=false:=jK jo;clear t;go_wp2;go_ret;exact ⟨_,rfl,y,rfl⟩
theorem Za8 {c:Ac} {B:List BK} {E:List EN} (h:BU c B E) (l:AH B) (f:∀x∈E,∃b∈B,b.1=x.1):E.map (Zai B)=An c B:=by
 have q:E.length=(An c B).length:=by
  have:=congrArg List.length h;simpa using this
 apply List.ext_getElem
 .simpa using q
 .intro i r s;have n:i<E.length:=by simpa using r
  have g:(E.map Fj)[i]'(by simpa using n)=((An c B).map (F7 B))[i]'(by simpa using s):=by
   have t:E.map Fj=(An c B).map (F7 B):=h;simp only [t]
  rw [List.getElem_map,List.getElem_map] at g;rw [List.getElem_map];unfold Fj F7 at g;injection g with e2 e3
  obtain ⟨b,u,k⟩:=f _ (jJ n);obtain ⟨m,v,rfl⟩:=List.getElem_of_mem u;unfold Zai
  have a:(E[i].1).size≠0:=by
   rw [<-k];have:=(l.1.2 _ (jJ v)).1;omega
  generalize (An c B)[i]=e at *;obtain ⟨pt,o⟩:=e;simp only at e2 e3 |-;rw [e2];congr 1;unfold A7 at e3;by_cases p:o<0
  .rw [if_pos p] at e3;rw [e3] at a;exact absurd rfl a
  .rw [if_neg p] at e3;by_cases d:o.toNat<B.length
   .rw [jG d] at e3;simp only [Option.map_some,Option.getD_some] at e3;rw [e3,RM l.2 d];omega
   .rw [List.getElem?_eq_none jo] at e3;rw [e3] at a;exact absurd rfl a
theorem Zbw (V:Aw) (s:Nat) (x:WG) (k:Nat) (hk:k<x.prs.length) (A B C:Int) (S:jt) (w:jj) (h:Ao V s x w) (hs:s<=150000) (hB:Aj B):
  Calls Tryz.prog 37 #[.pointer (some ⟨x.p,0,none⟩),.pointer (some ⟨(x.prs[k]).a,0,none⟩),AB 8 A B C S] w (Hg V x.p (s+1)):=by
 have d:=h.pair_at k hk;have l:=fun (t:jt) (ht:t.size<=16777216) i (b:Aa w i)=>LH V s x k hk t i (h.later b) hs jo
 have O:=Je (x.prs[k]).c (x.prs[k]).B d.2.2.2.2.1 d.2.2.2.1.1;have H:=d.2.2.2.1;have W:=d.2.2.2.2.1;have ag:=d.2.2.2.2.2.1;obtain ⟨u,z⟩:∃u,u=Ai (I9 B (x.prs[k]).g.toNat (x.prs[k]).c (x.prs[k]).B (An (x.prs[k]).c (x.prs[k]).B)).1:=⟨_,rfl⟩;obtain ⟨T,P⟩:∃T,T=(I9 B (x.prs[k]).g.toNat (x.prs[k]).c (x.prs[k]).B (An (x.prs[k]).c (x.prs[k]).B)).2:=⟨_,rfl⟩;have I:=fun i (b:Aa w i)=>(Tj x.M (x.prs[k]).q (x.prs[k]).c (x.prs[k]).B (x.prs[k]).g.toNat B i (by have:=d.2.1.later b;rw [Int.toNat_of_nonneg d.2.2.2.2.2.1.1];exact this) O d.2.2.2.2.1 d.2.2.2.1.1 (by have:=d.2.2.2.2.2.1.2.1;omega)).mono (fun e w' hr=>(show e= .returned (.tuple #[.string u,.int .i64 T])/\Aa i w' from by rw [z,P];exact hr))
 have X:u.size<=16777216:=by
  rw [z,NG];exact Yh ((Ac.ok_iff _).1 W).1 H.1 O
 have l:=l u X;have o:=jp z;have r:=jp P;clear z P X;clear O;have J:∀i,Aa w i->Hid (Hg V x.p (s+1) (.returned (.bool true)) i):=fun i hb=>⟨rfl,x,(h.later hb).up jo,rfl⟩
 have K:w.heap.size∉x.M:=fun e=>by have:=(h.2.2.2.2.1 _ e).2;omega
 generalize x.M=M0 at *;generalize x.prs[k]=y at *;have c0:=d.1.1 0 _ rfl;have Y:=d.1.1 8 _ rfl;have HV:=jp d.2.2.2.2.2.2.1.unmask;generalize x.p=p at *;have Q:=jF c0;simp only at Q;have Z:∀i,Aa w i->y.a<i.heap.size:=fun i b=>jN Q b.size
 clear d h;unfold AB;go_enter Tryz.func37,Tryz.ntmps37;go_wp2_with fail;obtain ⟨wo,aa,D,o0,o1,o2,o3,o4⟩:=BV w (.int .i64 8) (.int .i64 A) (.int .i64 B) (.int .i64 C) (.string S) 28;rw [aa];clear aa;have k0:=D.cell c0;have k8:=D.cell Y;generalize w.heap.size=po at o0 o1 o2 o3 o4 K |-;go_region_held3 (fun w'=>Aa wo w'/\w'.cell? ⟨y.a,0,none⟩=some (.pointer (some ⟨y.q,0,none⟩))/\w'.cell? ⟨po,2,none⟩=some (.int .i64 B)) ((exact ⟨jq,Aa.cell (a:=wo) jq k0,Aa.cell (a:=wo) jq o2⟩)) ((go_at_call 64;refine (I _ jq).mono ?_;rintro e w1 ⟨rfl,ah⟩));have n:Aa wo w1:=jq
 have ab:Aa w w1:=D.trans n;have k8:=n.cell k8;have ai:=n.cell o2;have ap:=Z _ ab;clear o0 o1 o2 o3 o4 k0 D n ah I c0 Y Z Q;by_cases hf:B<1\/2<B
 .have aj:(decide (B<1)||decide (2<B))=true:=by simpa using hf
  have f:I9 B y.g.toNat y.c y.B (An y.c y.B)=([],11):=by unfold I9;rw [if_neg jo]
  obtain rfl:u=ByteArray.empty:=by rw [o.out,f];rfl
  obtain rfl:T=11:=by rw [r.out,f]
  clear l HV o r f;go_wp2
  all_goals
   go_ret;exact (J _ jq).out
 .have aj:(decide (B<1)||decide (2<B))=false:=by simpa using hf
  rcases HV.out with ⟨hv,ar⟩|⟨q,E,hv,ak,al,hW,am,an⟩
  .rw [hv] at k8;have f:I9 B y.g.toNat y.c y.B (An y.c y.B)=([],7):=by unfold I9;rw [if_pos jo,if_pos jo]
   obtain rfl:u=ByteArray.empty:=by rw [o.out,f];rfl
   obtain rfl:T=7:=by rw [r.out,f]
   clear l HV o r f;go_wp2
   all_goals
    go_ret;exact (J _ jq).out
  .rw [hv] at k8;have f:I9 B y.g.toNat y.c y.B (An y.c y.B)=(BJ B.toNat y.g.toNat y.c y.B (An y.c y.B),0):=by unfold I9;rw [if_pos jo,if_neg jo]
   have ac:Hid (u=Ai (BJ B.toNat y.g.toNat y.c y.B (An y.c y.B))):=by show _=_;rw [o.out,f]
   obtain rfl:T=0:=by rw [r.out,f]
   clear ak HV o r f al hW am an;go_wp2_with fail;refine (l _ jq).mono ?_;rintro e U ⟨rfl,⟨x2,h2,ao,R⟩,ad⟩;have d2:=ad ⟨po,2,none⟩ _ K ai;have Y:=R.1.1 8 _ rfl;have ae:=R.2.2.2.2.2.2.1.unmask;rw [hv] at Y ae;rcases ae with ⟨F, -⟩|⟨q2,E2,F,L,v,af,N, -⟩
   .cases F
   simp only [Value.pointer.injEq,Option.some.injEq,Addr.mk.injEq,and_true] at F;subst F;have G:=fun i (b:Aa U i)=>Zbg q y.c y.g y.B E2 B i (L.later b) v hB af jo ag.1
   rw [Za8 N H v.2.2.2.2.1] at G;rw [<-ac.out] at G;have au:(u.toList==u.toList)=true:=FE.2 rfl;have H2:Hid (∀i,Aa U i->Hg V p (s+1) (.returned (.bool true)) i):=fun i hb=>⟨rfl,x2,h2.later hb,ao⟩
   clear h2 R L af ad l k8 N v ac;go_wp2_with fail;go_region_held3 (fun w'=>Aa U w'/\w'.cell? ⟨y.a,8,none⟩=some (.pointer (some ⟨q,0,none⟩))/\w'.cell? ⟨po,2,none⟩=some (.int .i64 B)) ((exact ⟨jq,Aa.cell (a:=U) jq Y,Aa.cell (a:=U) jq d2⟩)) ((go_at_call 55;refine (G _ jq).mono ?_;rintro e w3 ⟨m,rfl,av,hm⟩;have aw:m=u:=hm;clear hm;subst m));have aq:Aa U w3:=jq
   clear G;go_wp2
   all_goals
    go_ret;exact H2.out _ jq
theorem Zbq (g f n k:Nat) (pc:jt):AK (Et g f n k pc)=(({data:=#[65,1]}:jt)++Zaa [(g:Int),(f:Int),(n:Int),(k:Int)] ⟨#[52,49,50,50]⟩ 4++pc).data.toList:=by
 have e:Et g f n k pc=Az (({data:=#[65,1]}:jt)++Zaa [(g:Int),(f:Int),(n:Int),(k:Int)] ⟨#[52,49,50,50]⟩ 4++pc).data.toList:=by
  have a:Zaa [(g:Int),(f:Int),(n:Int),(k:Int)] ⟨#[52,49,50,50]⟩ 4=(((ByteArray.empty++DF (g:Int) 4)++DF (f:Int) 1)++DF (n:Int) 2)++DF (k:Int) 2:=rfl;have b:(ByteArray.empty).data.toList=[]:=rfl;have c:Az [65,1]=Az [65]++Ax 1 (8 * 1):=rfl;have d:Az []=[]:=rfl;rw [a];simp only [ByteArray.data_append,Array.toList_append,WH,Zam,b,c,d];unfold Et DB;simp only [List.append_assoc,List.nil_append]
 rw [e,ZaP]
theorem Za3 (k:Nat) (h:k<256):AK (DB k)=[65,UInt8.ofNat k]:=by
 have e:DB k=Az [65,UInt8.ofNat k]:=by
  unfold DB;show _=BT 65++(BT (UInt8.ofNat k)++[]);rw [List.append_nil]
  have:BT (UInt8.ofNat k)=Ax k (8 * 1):=by
   unfold BT;rw [UInt8.toNat_ofNat',Nat.mod_eq_of_lt h]
  rw [this];rfl
 rw [e,ZaP]
theorem ZaB (l:jy) (k:Nat) (_h:48 * k<=l.length):(Ai l).extract (48 * k) l.length=Ai (l.drop (48 * k)):=by
 rw [<-Zbd ((Ai l).extract (48 * k) l.length),ZaJ,Zau,jR (by rw [jh];exact jH _)]
structure Zb2 (q:jt) (h fo cg cf mi:Nat):Prop where
 h:BQ (q.extract 1 5).data.toList=(h:Int)
 fo:∀(k:5<q.size),(q[5]'k).toNat=fo
 cg:BQ (q.extract 6 10).data.toList=(cg:Int)
 cf:∀(k:10<q.size),(q[10]'k).toNat=cf
 mi:BQ (q.extract 11 13).data.toList=(mi:Int)
theorem ZaT (m:jy) (k:Nat) (h:k<m.length) (a:k<(Ai m).size):((Ai m)[k]'a).toNat=Zab ((m.drop k).take 1):=by
 have e:(m.drop k).take 1=[m[k]]:=by
  rw [List.drop_eq_getElem_cons h];rfl
 rw [e,Zbb];rfl
theorem Zci {l m:jy} (h:CQ l=some m) (b:m.length=13):∃c d cg cf f,Zb2 (Ai m) c d cg cf f/\∀g:0<(Ai m).size,ZcB l=if ((Ai m)[0]'g).toNat=81 then some (c,d,cg,cf,f) else none:=by
 refine ⟨Zab ((m.drop 1).take 4),Zab ((m.drop 5).take 1),Zab ((m.drop 6).take 4),Zab ((m.drop 10).take 1),Zab ((m.drop 11).take 2),⟨?_,fun k=>ZaT m 5 jo k,?_,fun k=>ZaT m 10 jo k,?_⟩,?_⟩
 .rw [ZaJ,Zau,ZaW]
 .rw [ZaJ,Zau,ZaW]
 .rw [ZaJ,Zau,ZaW]
 .intro g;rw [Za1 h,ZaT m 0 jo]
  have e:(m.drop 0).take 1=[m[0]'jo]:=by
   rw [List.drop_eq_getElem_cons jo];rfl
  rw [List.drop_zero] at e;rw [List.drop_zero,e,Zbb];by_cases a:(m[0]'jo).toNat=81
  .have:m[0]'jo=81:=UInt8.toNat_inj.1 a;rw [if_pos a,if_pos ⟨b,by rw [this]⟩]
  .rw [if_neg a,if_neg (fun k=>a (by have:=k.2;injection this with this _;rw [this];rfl))]
theorem ZaM {fm g:Nat} {c:Ac} {B:List BK} {E:List EI} {l:jy} (h:ZcB l=none):GO fm g c B E l=[]:=by
 unfold GO;rw [h]
theorem ZbK {fm g:Nat} {c:Ac} {B:List BK} {E:List EI} {l:jy} {h a cg cf b:Nat} (d:ZcB l=some (h,a,cg,cf,b)):GO fm g c B E l=Hu (Ef fm g c B E h a cg cf b):=by
 unfold GO;rw [d]
theorem ZaD (a b c d:Int):(Zaa [a,b,c,d] ⟨#[52,49,50,50]⟩ 4).size=9:=by
 show ((((ByteArray.empty++DF a 4)++DF b 1)++DF c 2)++DF d 2).size=9;simp only [jY,Zae];rfl
theorem Zcl (vs:ju) (c:Ac) (B:List BK) (Y o:Int) (n:jt) (w:jj) (hv:DQ w vs c B Y) (hB:AH B) (hg:0<=Y/\Y<=70000) (ax:(An c B).length<=65536) (bh:0<=o) (b1:o<=3) (hf:n.size<=1099511627776):
  Calls Tryz.prog 42 #[vs,.int .i64 o,.string n] w (En w (TQ (Ai (GO o.toNat Y.toNat c B (An c B) n.data.toList)))):=by
 obtain ⟨R,hR⟩:∃R,R=Ai (GO o.toNat Y.toNat c B (An c B) n.data.toList):=⟨_,rfl⟩;rw [<-hR];have HR:=jp hR;clear hR;have K:=ZbL n w hf;have r:=fun (s:jt) P (h:s.size<=20000000)=>ZaH s P (by omega)
 rcases hop:CQ n.data.toList with _|m
 .have Z:Hid (R=ByteArray.empty):=by
   show _=_;rw [HR.out,ZaM (VF hop)];rfl
  clear HR r
  unfold ZaO at K
  rw [hop] at K
  go_enter Tryz.func42,Tryz.ntmps42
  go_wp2_with fail
  refine K.mono ?_
  rintro e w1 ⟨q,ok,rfl,y,ay, -⟩
  obtain rfl:ok=false:=by
   cases ok
   .rfl
   .obtain ⟨m,hm⟩:=ay.1 rfl;cases hm
  clear ay K
  go_wp2
  go_ret
  exact ⟨_,rfl,y,Z.out.symm⟩
 unfold ZaO at K;rw [hop] at K
 have i : Calls Tryz.prog 74 #[.string n] w (fun e w' => e = .returned (.tuple #[.string (Ai m), .bool true]) /\ Aa w w') := K.mono (by
   rintro e w' ⟨a, b, rfl, hb, u, h2⟩
   have e1 : b = true := u.2 ⟨m, rfl⟩
   have e2 : a = Ai m := h2 m rfl
   rw [e1, e2]
   exact ⟨rfl, hb⟩)
 clear K;have az:(Ai m).size=m.length:=NG m;by_cases ab:m.length=13
 rotate_left
 .have a0:(((Ai m).size:Int) !=13)=true:=by rw [bne_iff_ne,az];omega
  have Z:Hid (R=ByteArray.empty):=by
   show _=_;rw [HR.out,ZaM (by rw [Za1 hop,if_neg (fun k=>ab k.1)])];rfl
  generalize Ai m=q at *;clear HR r hop;go_enter Tryz.func42,Tryz.ntmps42;go_wp2_with fail;refine i.mono ?_;rintro e w1 ⟨rfl,y⟩;clear i;go_wp2;go_ret;exact ⟨_,rfl,y,Z.out.symm⟩
 obtain ⟨hh,fo,cg,cf,Q,hQ,S⟩:=Zci hop ab;rw [ab] at az;generalize Ai m=q at *;have bw:13<=q.size:=by omega
 have bx:q.size<=13:=by omega
 have a0:((q.size:Int) !=13)=false:=by rw [jc];omega
 clear hop ab;have b2:=D4 q 0 (by omega);have ah:=D4 q 5 (by omega);have bz:=D4 q 10 (by omega);by_cases ai:(q[0]'(by omega)).toNat=81
 rotate_left
 .have bi:(((q[0]'(by omega)).toNat:Int) !=81)=true:=by rw [bne_iff_ne];omega
  have Z:Hid (R=ByteArray.empty):=by
   show _=_;rw [HR.out,ZaM (by rw [S (by omega),if_neg ai])];rfl
  clear HR r S hQ;go_enter Tryz.func42,Tryz.ntmps42;go_wp2_with fail;refine i.mono ?_;rintro e w1 ⟨rfl,y⟩;clear i;go_wp2;go_ret;exact ⟨_,rfl,y,Z.out.symm⟩
 have bi:(((q[0]'(by omega)).toNat:Int) !=81)=false:=by rw [jc];omega
 have S:=S (by omega);rw [if_pos ai] at S;obtain ⟨fm,rfl⟩:=jM bh;obtain ⟨g,rfl⟩:=jM hg.1
 have HS:Hid (R=Ai (Hu (Ef fm g c B (An c B) hh fo cg cf Q))):=by
  show _=_;rw [HR.out,ZbK S];rfl
 clear HR S;have bj:(q.extract 1 5).size=4:=by simp;omega
 have bk:(q.extract 6 10).size=4:=by simp;omega
 have bl:(q.extract 11 13).size=2:=by simp;omega
 have n1:=Jx _ bj;have n2:=Jx _ bk;have n3:=Kg _ 2 (Nat.le_of_eq bl);have M:=fun P=>Fu (q.extract 1 5) P (by omega)
 have N:=fun P=>Fu (q.extract 6 10) P (by omega)
 have O:=fun P=>Fu (q.extract 11 13) P (by omega)
 rw [hQ.h] at n1 M;rw [hQ.cg] at n2 N;rw [hQ.mi] at n3 O;have h5:=hQ.fo (by omega);have a1:=hQ.cf (by omega)
 have b3:Q<=65535:=by
  have:(Q:Int)<65536:=by simpa using n3.2
  omega
 have b0:bits .and .i64 ((q[5]'(by omega)).toNat:Int) (fm:Int)=((fo &&& fm:Nat):Int):=by rw [h5];exact Oi fo fm (by omega) (by omega)
 have b4:fo &&& fm<=3:=jX Nat.and_le_right (by omega);have T:=jp a1;clear hQ n3 ai h5 a1;generalize a2:fo &&& fm=f at *;have ac:=jp a2;clear a2;by_cases aj:f=0
 .subst aj
  have Z:Hid (R=Ai (Zad [65,2])):=by
   show _=_;rw [HS.out];unfold Ef;rw [ac.out,if_pos rfl];unfold Hu;rw [if_neg (by decide),Za3 2 (by decide)];rfl
  have aa:=fun P=>r ⟨#[65,2]⟩ P (by decide)
  have F:(((0:Nat):Int)==0)=true:=rfl;clear r hv ax;go_enter Tryz.func42,Tryz.ntmps42;go_wp2_with fail;refine i.mono ?_;rintro e w1 ⟨rfl,y⟩;go_wp2_with fail;refine (M _).mono ?_;rintro e w2 ⟨rfl,rfl⟩;go_wp2_with fail;refine (N _).mono ?_;rintro e w2 ⟨rfl,rfl⟩;go_wp2_with fail;refine (O _).mono ?_;rintro e w2 ⟨rfl,rfl⟩;go_wp2_with fail;refine (aa _).mono ?_;rintro e w5 ⟨t,rfl,ah,V⟩
  have HT:Hid (t=R):=by
   show t=R;rw [Z.out];exact V
  clear V;go_wp2;go_ret;exact ⟨_,rfl,jq,HT.out⟩
 have F:((f:Int)==0)=false:=by rw [jI];omega
 have z:g=0\/hh=g->Hid (R=Ai (Zad [65,0])):=fun bm=>by
  show _=_;rw [HS.out];unfold Ef;rw [ac.out,if_neg aj,if_pos bm];unfold Hu;rw [if_neg (by decide),Za3 0 (by decide)];rfl
 rcases hv with ⟨rfl,b5⟩|⟨p,E,rfl,ak,ad,a3,a4,b6⟩
 .have Z:=z (Or.inl (by omega));have aa:=fun P=>r ⟨#[65,0]⟩ P (by decide)
  clear z r;go_enter Tryz.func42,Tryz.ntmps42;go_wp2_with fail;refine i.mono ?_;rintro e w1 ⟨rfl,y⟩;clear i;go_wp2_with fail;refine (M _).mono ?_;rintro e w2 ⟨rfl,rfl⟩;go_wp2_with fail;refine (N _).mono ?_;rintro e w2 ⟨rfl,rfl⟩;go_wp2_with fail;refine (O _).mono ?_;rintro e w2 ⟨rfl,rfl⟩;clear M N O;go_wp2_with fail;refine (aa _).mono ?_;rintro e w5 ⟨t,rfl,ah,V⟩
  have HT:Hid (t=R):=by
   show t=R;rw [Z.out];exact V
  clear V;go_wp2;go_ret;exact ⟨_,rfl,jq,HT.out⟩
 have c6:w.cell? ⟨p,6,none⟩=some (.int .i64 (g:Int)):=by
  obtain ⟨vB,vE,_,c6,_⟩:=ak;exact c6
 by_cases a5:hh=g
 .have Z:=z (Or.inr a5);have aa:=fun P=>r ⟨#[65,0]⟩ P (by decide)
  have x:((hh:Int)==(g:Int))=true:=by rw [beq_iff_eq];omega
  clear z r;go_enter Tryz.func42,Tryz.ntmps42;go_wp2_with fail;refine i.mono ?_;rintro e w1 ⟨rfl,y⟩;have a6:=y.cell c6;clear i;go_wp2_with fail;refine (M _).mono ?_;rintro e w2 ⟨rfl,rfl⟩;go_wp2_with fail;refine (N _).mono ?_;rintro e w2 ⟨rfl,rfl⟩;go_wp2_with fail;refine (O _).mono ?_;rintro e w2 ⟨rfl,rfl⟩;clear M N O;go_wp2_with fail;refine (aa _).mono ?_;rintro e w5 ⟨t,rfl,ah,V⟩
  have HT:Hid (t=R):=by
   show t=R;rw [Z.out];exact V
  clear V;go_wp2;go_ret;exact ⟨_,rfl,jq,HT.out⟩
 have x:((hh:Int)==(g:Int))=false:=by rw [jI];omega
 have b7:g≠0:=by omega
 have a7:=Za8 a4 hB ad.2.2.2.2.1;have U:=fun (l:Int) P (b:Aa w P) (h:1<=l/\l<=2)=>Zbg p c (g:Int) B E l P (ak.later b) ad ⟨by omega,by omega⟩ a3 h (by omega)
 simp only [a7] at U;have G:∀f2:Nat,(BJ f2 g c B (An c B)).length<=16777216:=fun f2=>Py ((Ac.ok_iff c).1 ad.1).1 hB.1 ax
 have W:Hid (∀(l d:Nat),Dd cg cf f g=l->d=(if cg=g/\Q<countP (BJ l g c B (An c B)).length then Q else 0)->R=Ai (Zad (({data:=#[65,1]}:jt)++Zaa [(g:Int),(l:Int),(countP (BJ l g c B (An c B)).length:Int),(d:Int)] ⟨#[52,49,50,50]⟩ 4++Ai (Fm (BJ l g c B (An c B)) (d:Int))).data.toList)):=fun l d u h2=>by
  rw [HS.out]
  have e:Ef fm g c B (An c B) hh fo cg cf Q=(1,g,l,countP (BJ l g c B (An c B)).length,d,Fm (BJ l g c B (An c B)) (d:Int)):=by
   unfold Ef;rw [ac.out,if_neg aj,if_neg (by omega),u,<-h2]
  rw [e];unfold Hu;rw [if_pos rfl];show Ai (AK (Et g l _ d (Ai _))++Cn (CB (AK (Et g l _ d (Ai _)))))=_;rw [Zbq];rfl
 clear a7 ak ad a3 a4 z HS ac;have bn:Aj (g:Int):=⟨by omega,by omega⟩;obtain ⟨J,A⟩:∃J:Bool,Hid (J=true↔f=3/\cg=g/\cf=1):=⟨decide (f=3/\cg=g/\cf=1),decide_eq_true_iff⟩;obtain ⟨l,C⟩:∃l,Hid (Dd cg cf f g=l):=⟨_,rfl⟩
 have b8:1<=l/\l<=2:=by
  have:=C.out;unfold Dd at this;split at this
  .omega
  .split at this <;>omega
 have H:Hid ((1<f/\J=false->J=true->False)/\(J=true->l=1)/\(1<f->J=false->l=2)/\(¬1<f->J=false/\l=f)):=by
  have u:=C.out;have h2:=A.out;unfold Dd at u;cases J
  .have h3:¬(f=3/\cg=g/\cf=1):=fun k=>by have:=h2.2 k;cases this
   refine ⟨fun _ k=>(by cases k),fun k=>(by cases k),fun k _=>?_,fun k=>⟨rfl,?_⟩⟩
   .split at u
    .omega
    .rw [if_neg (fun k2=>h3 ⟨by omega,k2⟩)] at u;exact u.symm
   .rw [if_pos (by omega)] at u;exact u.symm
  .obtain ⟨k1,k2⟩:=h2.1 rfl;rw [if_neg (by omega),if_pos k2] at u;exact ⟨fun k=>(by cases k.2),fun _=>u.symm,fun _ k=>(by cases k),fun k=>by omega⟩
 go_enter Tryz.func42,Tryz.ntmps42;go_wp2_with fail;refine i.mono ?_;rintro e w1 ⟨rfl,y⟩;have a6:=y.cell c6;clear i;go_wp2_with fail;refine (M _).mono ?_;rintro e w2 ⟨rfl,rfl⟩;go_wp2_with fail;refine (N _).mono ?_;rintro e w2 ⟨rfl,rfl⟩;go_wp2_with fail;refine (O _).mono ?_;rintro e w2 ⟨rfl,rfl⟩;clear M N O;go_upto_region 12 with fail
 go_cut [13] from 65 to 79 (fun v wc=>w1=wc/\v= .bool J)
 case first=>
  clear U G r W F x;by_cases h3:f=3
  .have bo:((f:Int)==3)=true:=by rw [beq_iff_eq];omega
   by_cases hc:cg=g
   .have bp:((cg:Int)==(g:Int))=true:=by rw [beq_iff_eq];omega
    by_cases u:cf=1
    .have al:(((q[10]'(by omega)).toNat:Int)==1)=true:=by rw [beq_iff_eq,T.out];omega
     have HG:Hid (J=true):=A.out.2 ⟨h3,hc,u⟩;clear T A h3 hc u H C;go_wp2;go_meet
     case rel=>exact ⟨rfl,by rw [HG.out]⟩
    .have al:(((q[10]'(by omega)).toNat:Int)==1)=false:=by rw [jI,T.out];omega
     have HG:Hid (J=false):=by show _=_;rw [Bool.eq_false_iff];exact fun k=>u (A.out.1 k).2.2
     clear T A h3 hc u H C;go_wp2;go_meet
     case rel=>exact ⟨rfl,by rw [HG.out]⟩
   .have bp:((cg:Int)==(g:Int))=false:=by rw [jI];omega
    have HG:Hid (J=false):=by show _=_;rw [Bool.eq_false_iff];exact fun k=>hc (A.out.1 k).2.1
    clear T A h3 hc H C;go_wp2;go_meet
    case rel=>exact ⟨rfl,by rw [HG.out]⟩
  .have bo:((f:Int)==3)=false:=by rw [jI];omega
   have HG:Hid (J=false):=by show _=_;rw [Bool.eq_false_iff];exact fun k=>h3 (A.out.1 k).1
   clear T A h3 H C;go_wp2;go_meet
   case rel=>exact ⟨rfl,by rw [HG.out]⟩
 case rest=>
 obtain ⟨rfl,rfl⟩:=hcut;clear A T;go_upto_region 13 with fail
 obtain ⟨bb,D⟩:∃bb:Bool,Hid (bb=(decide (1<f) && !J)):=⟨_,rfl⟩;obtain ⟨fi,I⟩:∃fi:Int,Hid ((bb=true->2=fi)/\(bb=false->(f:Int)=fi)):=⟨if bb then 2 else (f:Int),(show _/\_ from ⟨fun k=>by rw [k];rfl,fun k=>by rw [k];rfl⟩)⟩;go_cut [85] from 80 to 85 (fun v wc=>w1=wc/\v= .bool bb)
 case first=>
  clear U G r W F x H C I;by_cases u:1<f
  .have al:decide ((f:Int)>1)=true:=jL (by omega);cases J
   all_goals
    rw [jL u] at D;have HD:=jp D.out;clear D u;go_wp2;go_meet
    case rel=>exact ⟨rfl,by rw [HD.out];rfl⟩
  .have al:decide ((f:Int)>1)=false:=jK (by omega);rw [jK u] at D;have HD:=jp D.out;clear D u;go_wp2;go_meet
   case rel=>exact ⟨rfl,by rw [HD.out];rfl⟩
 case rest=>
 obtain ⟨rfl,rfl⟩:=hcut;go_upto_if 85 with fail
 go_cut [10] (fun v wc=>w1=wc/\v= .int .i64 fi)
 case first=>
  clear U G r W F x H C D;cases bb
  .have HW:=jp (I.out.2 rfl);clear I;go_wp2;go_meet
   case rel=>exact ⟨rfl,by rw [<-HW.out]⟩
  .have HW:=jp (I.out.1 rfl);clear I;go_wp2;go_meet
   case rel=>exact ⟨rfl,by rw [<-HW.out]⟩
 case rest=>
 obtain ⟨rfl,rfl⟩:=hcut;go_upto_if 86 with fail
 go_cut [10] (fun v wc=>w1=wc/\v= .int .i64 (l:Int))
 case first=>
  have HV:Hid ((J=true->(1:Int)=(l:Int))/\(J=false->fi=(l:Int))):=by
   obtain ⟨-,k1,k2,d⟩:=H.out;refine ⟨fun k=>by rw [k1 k];rfl,fun k=>?_⟩;have hb:=D.out;rw [k] at hb;by_cases u:1<f
   .rw [jL u] at hb;rw [k2 u k];exact (I.out.1 hb).symm
   .rw [jK u] at hb;rw [(d u).2];exact (I.out.2 hb).symm
  clear U G r W F x H C D I;cases J
  .have HW:=jp (HV.out.2 rfl);clear HV;go_wp2;go_meet
   case rel=>exact ⟨rfl,by rw [HW.out]⟩
  .have HW:=jp (HV.out.1 rfl);clear HV;go_wp2;go_meet
   case rel=>exact ⟨rfl,by rw [<-HW.out]⟩
 case rest=>
 obtain ⟨rfl,rfl⟩:=hcut;clear H x F D I;go_wp2_with fail;refine (U (l:Int) _ jq (by omega)).mono ?_;rintro e w5 ⟨t,rfl,a8,V⟩;have am:t=Ai (BJ l g c B (An c B)):=by have e:=V;rwa [Int.toNat_natCast] at e
 have hl:=G l;have ag:=jp (W.out l);have X:Hid (t.size=(BJ l g c B (An c B)).length):=by show _=_;rw [am,NG]
 have b9:t.size<=16777216:=by rw [X.out];exact hl
 have an:Hid (∀d:Nat,48 * d<=t.size->t.extract (48 * d) t.size=Ai ((BJ l g c B (An c B)).drop (48 * d))):=fun d hk=>by
  rw [am,NG,ZaB _ _ (by rw [<-X.out];exact hk)]
 generalize BJ l g c B (An c B)=L at *;clear V am W U G hl;have d6:=a8.cell a6
 have ae:Hid ((((t.size:Int)+47) / 48)=(countP L.length:Int)):=by
  show _=_;rw [X.out];unfold countP;omega
 obtain ⟨d,af⟩:∃d:Nat,d=(if cg=g/\Q<countP L.length then Q else 0):=⟨_,rfl⟩;have ao:=jp af
 have bq:48 * d<=t.size:=by
  rw [af,X.out];split
  .rename_i h;have:=h.2;unfold countP at this;omega
  .omega
 have ca:d<=65535:=by rw [af];split <;>omega
 clear af;go_upto_region 19 with fail
 go_cut [104] (fun v wc=>w5=wc/\∃b:Bool,v= .bool b/\Hid (b=false↔(cg=g/\Q<countP L.length)))
 case first=>
  cases ap:((cg:Int) !=(g:Int))
  .have a9:Hid (cg=g):=by have:=jc.1 ap;show _=_;omega
   by_cases cb:(Q:Int)<((t.size:Int)+47) / 48
   .have aq:decide (((t.size:Int)+47) / 48<=(Q:Int))=false:=jK (by omega);have HL:Hid (Q<countP L.length):=by have:=ae.out;show _<_;omega
    go_wp2;go_meet
    case rel=>exact ⟨rfl,_,rfl,by first|exact ⟨fun _=>⟨a9.out,HL.out⟩,fun _=>rfl⟩|exact ⟨fun _=>⟨a9.out,HL.out⟩,fun _=>aq⟩⟩
   .have aq:decide (((t.size:Int)+47) / 48<=(Q:Int))=true:=jL (by omega);have HL:Hid (¬Q<countP L.length):=by have:=ae.out;show ¬_<_;omega
    go_wp2;go_meet
    case rel=>exact ⟨rfl,_,rfl,by first|exact ⟨fun h=>(by cases h),fun h=>absurd h.2 HL.out⟩|exact ⟨fun h=>(by rw [aq] at h;cases h),fun h=>absurd h.2 HL.out⟩⟩
  .have br:cg≠g:=fun e=>by rw [e] at ap;simp at ap
   clear ae X an ag;go_wp2;go_meet
   case rel=>exact ⟨rfl,_,rfl,⟨fun h=>(by cases h),fun h=>absurd h.1 br⟩⟩
 case rest=>
  obtain ⟨rfl,b,rfl,ar⟩:=hcut;go_upto_if 104 with fail
  go_cut [12] (fun bs wc=>w5=wc/\bs= .int .i64 (d:Int))
  case first=>
   cases b
   .have HM:Hid (Q=d):=by show _=_;rw [ao.out,if_pos (ar.out.1 rfl)]
    go_wp2;go_meet
    case rel=>exact ⟨rfl,by rw [HM.out]⟩
   .have HM:Hid ((0:Nat)=d):=by show _=_;rw [ao.out,if_neg (fun h=>by have:=ar.out.2 h;cases this)]
    go_wp2;go_meet
    case rel=>exact ⟨rfl,by rw [<-HM.out];rfl⟩
  case rest=>
   obtain ⟨rfl,rfl⟩:=hcut;clear ar;go_upto_region 22 with fail
   have au:=an.out d bq;have cc:(t.extract (48 * d) t.size).size=t.size - 48 * d:=by simp
   have ba:Hid ((¬48<t.size - 48 * d->t.extract (48 * d) t.size=Ai (Fm L (d:Int)))/\(48<t.size - 48 * d->(t.extract (48 * d) t.size).extract 0 48=Ai (Fm L (d:Int)))):=by
    have e1:Fm L (d:Int)=(L.drop (48 * d)).take 48:=by
     unfold Fm;rw [if_neg (by omega)];rfl
    refine ⟨fun h=>?_,fun h=>?_⟩
    .rw [au,e1,jR (by rw [jh,<-X.out];omega)]
    .rw [au,e1,Zay];rfl
   have cd:(Ai (Fm L (d:Int))).size<=48:=by rw [NG];exact PM _ _
   clear au an;generalize t.extract (48 * d) t.size=bt at *;generalize bc:Ai (Fm L (d:Int))=av at *;have bu:=jp bc;clear bc;by_cases bd:48<t.size - 48 * d
   all_goals
    go_upto_if 111 with fail
    all_goals
     go_cut [16] (fun v wc=>w5=wc/\v= .string av)
     case first=>
      go_wp2_with fail
      all_goals
       go_meet
       case rel=>exact ⟨rfl,by first|rw [ba.out.1 bd]|rw [<-ba.out.2 bd]⟩
     case rest=>
      obtain ⟨rfl,rfl⟩:=hcut;go_wp2_with fail;refine (Zas _ 4 _ _ [(g:Int),(l:Int),((t.size:Int)+47) / 48,(d:Int)] _ rfl (by decide) KH (by intro t V;match t,V with|0,_=>simp|1,_=>simp|2,_=>simp|3,_=>simp) (Aj.four bn ⟨by omega,by omega⟩ ⟨by omega,by omega⟩ ⟨by omega,by omega⟩)).mono ?_;rintro e w7 ⟨hd,rfl,ce,be⟩;have aw:hd=Zaa [(g:Int),(l:Int),((t.size:Int)+47) / 48,(d:Int)] ⟨#[52,49,50,50]⟩ 4:=be;have ch:hd.size=9:=by rw [aw,ZaD]
      have bf:Hid (Ai (Zad (({data:=#[65,1]}:jt)++hd++av).data.toList)=R):=by
       show _=_;rw [ag.out d C.out ao.out,aw,ae.out,bu.out]
      clear be aw;go_wp2_with fail;refine (r (({data:=#[65,1]}:jt)++hd++av) _ (by simp only [jY,show (({data:=#[65,1]}:jt)).size=2 from rfl];omega)).mono ?_;rintro e w8 ⟨t8,rfl,ci,bg⟩
      have bv:Hid (t8=R):=by
       show t8=R;rw [<-bf.out];exact bg
      clear bg;go_wp2;go_ret;exact ⟨_,rfl,jq,bv.out⟩
def Zcx (A B:List EN) (i j:Nat):Prop:=∃(a:i<A.length) (b:j<B.length),A[i]=B[j]
theorem ZdU {A B:List EN} {i j:Nat} (a:i<A.length) (b:j<B.length) {y:Bool} (c:y=true↔A[i]=B[j]):y=true↔Zcx A B i j:=by
 rw [c];exact ⟨fun e=>⟨a,b,e⟩,fun ⟨_,_,e⟩=>e⟩
theorem Zdr {A B:List EN} {i j:Nat} (h:¬(i<A.length/\j<B.length)):false=true↔Zcx A B i j:=⟨fun e=>(by cases e),fun ⟨a,b,_⟩=>absurd ⟨a,b⟩ h⟩
theorem ZdK (a b:jt) (x y u v:Int):((a.toList==b.toList && (x==u && y==v))=true)↔(a,x,y)=(b,u,v):=by
 rw [Bool.and_eq_true,Bool.and_eq_true,FE,beq_iff_eq,beq_iff_eq,Prod.mk.injEq,Prod.mk.injEq]
def Zc4 (A B:List EN) (n m:Nat):Prop:=(n<=A.length/\n<=B.length)/\(∀i,i<n->Zcx A B i i)/\¬Zcx A B n n/\(n+m<=A.length/\n+m<=B.length)/\(∀i,i<m->Zcx A B (A.length - 1 - i) (B.length - 1 - i))/\(n+m<A.length->n+m<B.length->¬Zcx A B (A.length - 1 - m) (B.length - 1 - m))
def Ze7 (w:jj) (A B:List EN) (e:Ending) (w':jj):Prop:=∃n m:Nat,e= .returned (.tuple #[.int .i64 n,.int .i64 m])/\Aa w w'/\Zc4 A B n m
theorem ZeL (va vb:ju) (A B:List EN) (w:jj) (ha:Eb w va A) (hb:Eb w vb B) (ak:A.length<=140000) (al:B.length<=140000):
  Calls Tryz.prog 106 #[va,vb] w (Ze7 w A B):=by
 obtain ⟨am,ai,rfl,u⟩:=ha;obtain ⟨an,aj,rfl,z⟩:=hb;go_enter Tryz.func106,Tryz.ntmps106;go_wp2;go_loopg [6] A.length (fun r n wr=>Aa w wr/\∃k:Nat,r=A.length - k/\k<=A.length/\k<=B.length/\n= .int .i64 k/\Hid (∀i,i<k->Zcx A B i i))
 case atStart=>exact ⟨jD _,0,jo,jo,jo,rfl,fun i V=>jo⟩
 case round=>
  obtain ⟨d,k,hr,W,X,rfl,Y⟩:=hrel;go_upto_region 2 with fail
  go_cut [28] (fun v wc=>Aa w wc/\∃x,v= .bool x/\(x=true↔Zcx A B k k))
  case first=>
   by_cases Z:(k:Int)<A.length
   .by_cases h2:(k:Int)<B.length
    .obtain ⟨gA,K,rfl,L,M,N⟩:=u k jo;obtain ⟨gB,O,rfl,P,Q,R⟩:=z k jo;have C:=d.cell L;have D:=d.cell M;have E:=d.cell N;have F:=d.cell P;have G:=d.cell Q;have H:=d.cell R;have HK:Hid (∀y:Bool,(y=true↔A[k]=B[k])->(y=true↔Zcx A B k k)):=fun y hy=>ZdU jo jo hy
     clear u z L M N P Q R;generalize A[k]=ea at *;generalize B[k]=eb at *;obtain ⟨g,l,o⟩:=ea;obtain ⟨p,s,t⟩:=eb;simp only at C D E F G H;have S:=Od;cases I:(g.toList==p.toList && (l==s && o==t))
     all_goals
      have HQ:=jp I;go_quiet (fail);go_wp2_with fail
      all_goals
       go_meet
       case rel=>exact ⟨jq,_,rfl,HK.out _ (by rw [<-ZdK g p l o s t,HQ.out])⟩
    .have aa:decide ((k:Int)<B.length)=false:=jK h2;go_quiet (fail);go_wp2;go_meet
     case rel=>exact ⟨jq,_,rfl,Zdr jo⟩
   .have ab:decide ((k:Int)<A.length)=false:=jK Z;go_quiet (fail);go_wp2;go_meet
    case rel=>exact ⟨jq,_,rfl,Zdr jo⟩
  case rest=>
   obtain ⟨T,x,rfl,hx⟩:=hcut;cases x
   .have HN:Hid (¬Zcx A B k k):=fun h=>(by have:=hx.2 h;cases this)
    clear hx;go_wp2;go_loopg [7] A.length (fun r m wr=>Aa w wr/\∃q:Nat,r=A.length - q/\k+q<=A.length/\k+q<=B.length/\m= .int .i64 q/\Hid (∀i,i<q->Zcx A B (A.length - 1 - i) (B.length - 1 - i)))
    case atStart=>exact ⟨T,0,jo,jo,jo,rfl,fun i V=>jo⟩
    case round=>
     obtain ⟨f,q,ao,ac,ad,rfl,HS⟩:=hrel;go_upto_region 5 with fail
     go_cut [63] (fun v wc=>Aa w wc/\∃x,v= .bool x/\(x=true->(k+q<A.length/\k+q<B.length)/\Zcx A B (A.length - 1 - q) (B.length - 1 - q))/\(x=false->k+q<A.length->k+q<B.length->¬Zcx A B (A.length - 1 - q) (B.length - 1 - q)))
     case first=>
      by_cases Z:(q:Int)<A.length - (k:Int)
      .by_cases h2:(q:Int)<B.length - (k:Int)
       .obtain ⟨gA,K,rfl,L,M,N⟩:=u (A.length - 1 - q) jo;obtain ⟨gB,O,rfl,P,Q,R⟩:=z (B.length - 1 - q) jo;have C:=f.cell L;have D:=f.cell M;have E:=f.cell N;have F:=f.cell P;have G:=f.cell Q;have H:=f.cell R;have ae:A.length - 1 - q<A.length:=jo
        have af:B.length - 1 - q<B.length:=jo
        have HK:Hid (∀y:Bool,(y=true↔A[A.length - 1 - q]=B[B.length - 1 - q])->(y=true->(k+q<A.length/\k+q<B.length)/\Zcx A B (A.length - 1 - q) (B.length - 1 - q))/\(y=false->k+q<A.length->k+q<B.length->¬Zcx A B (A.length - 1 - q) (B.length - 1 - q))):=fun y hy=>by
         have h3:=ZdU ae af hy;exact ⟨fun e=>⟨⟨jo,jo⟩,h3.1 e⟩,fun e _ _ h4=>by rw [h3.2 h4] at e;cases e⟩
        clear u z L M N P Q R;generalize A[A.length - 1 - q]=ea at *;generalize B[B.length - 1 - q]=eb at *;obtain ⟨g,l,o⟩:=ea;obtain ⟨p,s,t⟩:=eb;simp only at C D E F G H;have S:=Od;cases I:(g.toList==p.toList && (l==s && o==t))
        all_goals
         have HQ:=jp I;go_quiet (fail);go_wp2_with fail
         all_goals
          go_meet
          case rel=>exact ⟨jq,_,rfl,HK.out _ (by rw [<-ZdK g p l o s t,HQ.out])⟩
       .have aa:decide ((q:Int)<B.length - (k:Int))=false:=jK h2;go_quiet (fail);go_wp2;go_meet
        case rel=>exact ⟨jq,_,rfl,fun h=>(by cases h),fun _ e1 e2=>jo⟩
      .have ab:decide ((q:Int)<A.length - (k:Int))=false:=jK Z;go_quiet (fail);go_wp2;go_meet
       case rel=>exact ⟨jq,_,rfl,fun h=>(by cases h),fun _ e1 e2=>jo⟩
     case rest=>
      obtain ⟨U,x,rfl,hx,J⟩:=hcut;cases x
      .have HF:Hid (Zc4 A B k q):=⟨⟨W,X⟩,Y.out,HN.out,⟨ac,ad⟩,HS.out,J rfl⟩;clear hx J;go_wp2;go_ret2;exact ⟨k,q,rfl,U,HF.out⟩
      .have c:Hid (k+q<A.length/\k+q<B.length):=(hx rfl).1
       have ag : Hid (∀ i, i < q + 1 -> Zcx A B (A.length - 1 - i) (B.length - 1 - i)) := fun i V => (by
         by_cases e : i = q
         . subst e; exact (hx rfl).2
         . exact HS.out i jo)
       clear hx J HS;go_wp2;go_roundg (A.length - (q+1))
       case measure=>have:=c.out;omega
       case rel=>exact ⟨U,q+1,rfl,by have:=c.out;omega,by have:=c.out;omega,by go_num,ag⟩
   .have c:Hid (k<A.length/\k<B.length):=(by obtain ⟨a,b,_⟩:=hx.1 rfl;exact ⟨a,b⟩)
    have ah : Hid (∀ i, i < k + 1 -> Zcx A B i i) := fun i V => (by
      by_cases e : i = k
      . subst e; exact hx.1 rfl
      . exact Y.out i jo)
    clear hx Y;go_wp2;go_roundg (A.length - (k+1))
    case measure=>have:=c.out;omega
    case rel=>exact ⟨T,k+1,rfl,by have:=c.out;omega,by have:=c.out;omega,by go_num,ah⟩
end Go.Proofs.YtpapdkhjdelfcaaGreat
