import Derived.Test.YtpapdkhjdelfcaaGreatMBV
import Derived.Test.YtpapdkhjdelfcaaGreatMBX
namespace Go.Proofs.YtpapdkhjdelfcaaGreat
open Go.RowKit
set_option maxRecDepth 100000
set_option maxHeartbeats 4000000
theorem ZeS {S:jy} {alg:Int} (h:¬∃m,CQ S=some m):Dl alg S=none:=by
 unfold Dl;cases e:CQ S with
 |none=>rfl
 |some m=>exact absurd ⟨m,e⟩ h
def ZcD (w:jj) (S d:jy) (c:Ac) (e:Ending) (w':jj):Prop:=∃(v:ju) (a:Int),e= .returned (.tuple #[v,.int .i64 a])/\Aa w w'/\(a≠0->DH S d=([],a))/\
 (a=0->∃(q:Nat) (b:Int) (B:List BK) (E:List EN),v= .pointer (some ⟨q,0,none⟩)/\CL w.heap.size w' q c b B E/\Dh c b B E/\(∀x∈E,Af x.2.1/\Af x.2.2)/\0<=b/\DH S d=(BJ 1 b.toNat c B (E.map (Zai B)),0))
theorem ZcD.no {w w':jj} {S b:jy} {c:Ac} (h:Aa w w') (a:Int) (d:a≠0) (k:DH S b=([],a)):ZcD w S b c (.returned (.tuple #[.pointer none,.int .i64 a])) w':=⟨_,_,rfl,h,fun _=>k,fun e=>absurd e d⟩
theorem Zd7 {S k:jy} {l c:Int} {f:Ac} {o L:List BK} {a g:List EN} {b s n m i:Nat} (h:ZcT k l f o a) (A:Dl f.alg S=some (b,s,c.toNat,L,n,m,g.map (Zai L))) (B:b=l.toNat/\s=(G9 l.toNat f o (a.map (Zai o))).toNat) (p:AH L) (q:n+m<=a.length) (r:i=a.length - m) (t:f.OK) (F:0<=c) (d:∀x∈a.take n++g++a.drop i,∃b∈L,b.1=x.1) (v:∀x∈a.take n++g++a.drop i,Af x.2.1/\Af x.2.2):(Zcw f c L (a.take n++g++a.drop i)->DH S k=(BJ 1 c.toNat f L ((a.take n++g++a.drop i).map (Zai L)),0))/\(¬Zcw f c L (a.take n++g++a.drop i)->DH S k=([],9)):=by
 have u:=Zfk h.good p h.ids h.w32 r d;obtain ⟨w,y⟩:=h.on A B;rw [u] at w y;constructor
 .intro C;obtain ⟨G,H,D⟩:=(Zdb p d v).1 C;exact w ⟨q,⟨jo,jo⟩,D⟩
 .intro E;refine y fun z=>E ((Zdb p d v).2 ⟨t,?_,z.2.2⟩)
  have:=z.2.1;omega
theorem Zfb (s:jt) (U:jy) (qa:Nat) (c:Ac) (V:Int) (H:List BK) (l:List EN) (w:jj) (hs:s.size<=1099511627776) (hA:Bz w qa c V H l) (dv:Dh c V H l) (dw:∀x∈l,Af x.2.1/\Af x.2.2) (dx:l.length<=65535) (dy:ZcT U V c H l) (b6:0<=V):
  Calls Tryz.prog 59 #[.string s,.pointer (some ⟨qa,0,none⟩)] w (ZcD w s.data.toList U c):=by
 obtain ⟨S,hS⟩:∃S,S=s.data.toList:=⟨_,rfl⟩;rw [<-hS];have F:=jp dy;clear dy;obtain ⟨i0,hi,cs,ct,cu⟩:=info_parts Tryz.infoEN;have HA:=jp hA;have bj:=jp dv;have bk:=jp dw;clear hA dv dw;go_enter Tryz.func59,Tryz.ntmps59;go_wp2_with fail;refine (ZbL s _ hs).mono ?_;rintro e w1 ⟨a,ok,rfl,bl,ar,bm⟩;rw [<-hS] at ar bm;have gw:Hid (S.length=s.size):=by show _=_;rw [hS];rfl
 clear hS;cases ok
 .have K:Hid (DH S U=([],9)):=F.out.nope (ZeS fun h=>by have:=ar.2 h;cases this);clear ar bm;go_wp2;go_ret2;exact ZcD.no bl _ ji K.out
 .obtain ⟨m,hm⟩:=ar.1 rfl;have cw:=bm m hm;have HO:Hid (CQ S=some a.data.toList):=by show _=_;rw [hm,cw,Zau]
  have ha:a.size<=s.size:=by
   have h1:=Zdx hm;have h2:a.size=m.length:=by rw [cw];simp [Ai,ByteArray.size]
   have h3:S.length=s.size:=gw.out;omega
  clear ar bm hm cw;go_upto_region 5 with fail
  have dz:Aq (w1.alloc (.cells #[.string a,.bool false] 128)) w1.heap.size a false:=⟨js,js,js,js⟩;have d0:Aa w (w1.alloc (.cells #[.string a,.bool false] 128)):=bl.step_alloc _;have B:w.heap.size<=w1.heap.size:=bl.size;have b7:w1.heap.size<(w1.alloc (.cells #[.string a,.bool false] 128)).heap.size:=js
  generalize w1.heap.size=pt at *;generalize w1.alloc (.cells #[.string a,.bool false] 128)=W0 at *;clear bl;go_wp2_with fail;refine (Zc3 pt 2 a false _ ji ji (by unfold maxLen;omega) dz).mono ?_;rintro e W1 ⟨v1,s1,cx,rfl,cy,d1,h,rfl,g1, -, -, -,O⟩;have E1:Hid ((Zcp a false).bind (DU 2)=(Zcp s1 cx).map (Prod.mk h.data.toList)):=O;clear O;have d2:=cy.bel d0 B;go_wp2_with fail;refine (Zcv pt 4 s1 cx _ ji ji (by unfold maxLen;omega) d1).mono ?_;rintro e W2 ⟨v2,s2,cz,rfl,c0,d3,C,rfl,g2,gx, -, -,O⟩;have d4:Hid ((Zcp s1 cx).bind (A9 32)=(Zcp s2 cz).map (Prod.mk C.toNat)):=O;clear O;have d5:=c0.bel d2 B;go_wp2_with fail;refine (Zcv pt 4 s2 cz _ ji ji (by unfold maxLen;omega) d3).mono ?_;rintro e W3 ⟨v3,s3,c6,rfl,c7,d6,P,rfl,g3,iq, -, -,O⟩;have d7:Hid ((Zcp s2 cz).bind (A9 32)=(Zcp s3 c6).map (Prod.mk P.toNat)):=O;clear O;have bn:=c7.bel d5 B;have c9:pt<W3.heap.size:=jN b7 (jX cy.size (jX c0.size c7.size));clear cy c0 c7 dz d1 d3 d0 d2 d5 b7;obtain ⟨gy,d8,⟨m0,m1,m2,m3,m4,m5⟩, -⟩:=HA.out.later bn;go_upto_region 9 with fail
  have d9:BR (W3.alloc (.cells #[.int .i64 c.alg,.int .i64 c.slots,.int .i64 c.points,.int .i64 c.probes,.string c.key,.int .i64 c.formats,.int .i64 0,.slice none 0 0,.slice none 0 0] 85)) W3.heap.size [.int .i64 c.alg,.int .i64 c.slots,.int .i64 c.points,.int .i64 c.probes,.string c.key,.int .i64 c.formats,.int .i64 0,.slice none 0 0,.slice none 0 0]:=BR.alloc _ _ _;have fa:=d6.later (Aa.step_alloc (jD _) (.cells #[.int .i64 c.alg,.int .i64 c.slots,.int .i64 c.points,.int .i64 c.probes,.string c.key,.int .i64 c.formats,.int .i64 0,.slice none 0 0,.slice none 0 0] 85));have bo:w.heap.size<=W3.heap.size:=bn.size;have b8:W3.heap.size<(W3.alloc (.cells #[.int .i64 c.alg,.int .i64 c.slots,.int .i64 c.points,.int .i64 c.probes,.string c.key,.int .i64 c.formats,.int .i64 0,.slice none 0 0,.slice none 0 0] 85)).heap.size:=js
  have fb:=bn.step_alloc (.cells #[.int .i64 c.alg,.int .i64 c.slots,.int .i64 c.points,.int .i64 c.probes,.string c.key,.int .i64 c.formats,.int .i64 0,.slice none 0 0,.slice none 0 0] 85);have W:W3.heap.size≠pt:=jo
  clear d6 bn m0 m1 m2 m3 m4 m5;generalize W3.heap.size=q at *;generalize W3.alloc (.cells #[.int .i64 c.alg,.int .i64 c.slots,.int .i64 c.points,.int .i64 c.probes,.string c.key,.int .i64 c.formats,.int .i64 0,.slice none 0 0,.slice none 0 0] 85)=X0 at *;go_wp2_with fail;refine (Zcv pt 4 s3 c6 _ ji ji (by unfold maxLen;omega) fa).mono ?_;rintro e X1 ⟨v,r1,q1,rfl,z,fc,f,rfl,z1,b9,au, -,O⟩;have fd:Hid ((Zcp s3 c6).bind (A9 32)=(Zcp r1 q1).map (Prod.mk f.toNat)):=O;clear O;have ir:f<4294967296:=by simpa using au
  clear au;have bp:=d9.but z W;have hc:=(bp 6 _ rfl).1;have hf:=(bp 6 _ rfl).2;have fe:=z.bel fb B;have cb:q<X1.heap.size:=jN b8 z.size;clear d9 fa fb z b8 c9;have hX:BR (X1.setCell ⟨q,6,none⟩ (.int .i64 f)) q [.int .i64 c.alg,.int .i64 c.slots,.int .i64 c.points,.int .i64 c.probes,.string c.key,.int .i64 c.formats,.int .i64 f,.slice none 0 0,.slice none 0 0]:=bp.set 6 _;have hT:Aq (X1.setCell ⟨q,6,none⟩ (.int .i64 f)) pt r1 q1:=fc.other W;have hW:Aa w (X1.setCell ⟨q,6,none⟩ (.int .i64 f)):=fe.step_set (p:=⟨q,6,none⟩) bo _;have ff:q<(X1.setCell ⟨q,6,none⟩ (.int .i64 f)).heap.size:=by simpa using cb
  go_upto_region 10 with fail
  clear bp fc fe cb hc hf;generalize X1.setCell ⟨q,6,none⟩ (.int .i64 f)=Y1 at *;have cc:pt<Y1.heap.size:=World.block_lt_of_cell? _ _ hT.1;go_wp2_with fail;refine (ZdL pt r1 q1 _ (by unfold maxLen;omega) hT cc).mono ?_;rintro e Z1 ⟨vB,L,gz,s7,fg,rfl,z,fh,ix,da,iy,av,aw⟩;have X:=jp (Zes (alg:=c.alg) HO.out E1.out d4.out d7.out fd.out aw);have bq:=jp aw;clear aw HO E1 d4 d7 fd;have ax:=hX.but z W;have fi:=z.bel hW B;have ay:∀g,vB.ownBlock=some g->g≠pt:=fun g hg=>by have:=av g hg;omega
  have g0:Hid (∀g,vB.ownBlock=some g->w.heap.size<=g):=fun g hg=>jX hW.size (av g hg)
  have fj:q<Z1.heap.size:=jN ff z.size;have g4:=(ax 7 _ rfl).1;have g5:=(ax 7 _ rfl).2;clear hX hT hW z av ff cc;have N:BR (Z1.setCell ⟨q,7,none⟩ vB) q [.int .i64 c.alg,.int .i64 c.slots,.int .i64 c.points,.int .i64 c.probes,.string c.key,.int .i64 c.formats,.int .i64 f,vB,.slice none 0 0]:=ax.set 7 _;have D:Aq (Z1.setCell ⟨q,7,none⟩ vB) pt s7 fg:=fh.other W;have A:Aa w (Z1.setCell ⟨q,7,none⟩ vB):=fi.step_set (p:=⟨q,7,none⟩) bo _;have Q:q<(Z1.setCell ⟨q,7,none⟩ vB).heap.size:=by simpa using fj
  have o:Am (Z1.setCell ⟨q,7,none⟩ vB) vB L:=da.set_x (ax 0 _ rfl).1
  obtain ⟨fk,cd,g6⟩:∃ao cap,vB= .slice ao L.length cap:=by
   obtain ⟨ao,cap,hv,_⟩:=da.open;exact ⟨ao,cap,hv⟩
  subst g6;go_upto_region 12 with fail
  clear ax fh fi fj g4 g5 da;generalize Z1.setCell ⟨q,7,none⟩ (.slice fk L.length cd)=Z2 at *;cases gz
  .have K:Hid (DH S U=([],9)):=F.out.nope (X.out.2 fun h=>by cases h.2);clear X bq;go_wp2;go_ret2;exact ZcD.no A _ ji K.out
  obtain ⟨rfl,fl⟩:fg=false/\AH L:=⟨(bq.out.1 rfl).1,(bq.out.1 rfl).2.1⟩;have br:=jp fl;have I:Hid ((h.data.toList=[67,80]->Dl c.alg S=Ko c.alg C.toNat P.toNat f.toNat L (Zcp s7 false))/\(¬h.data.toList=[67,80]->Dl c.alg S=none)):=⟨fun e=>X.out.1 ⟨e,rfl⟩,fun e=>X.out.2 fun h=>e h.1⟩;clear bq fl X;go_wp2_with fail;refine (Zcv pt 2 s7 false _ ji ji (by unfold maxLen;omega) D).mono ?_;rintro e V1 ⟨v,r2,q2,rfl,z,Y,nn,rfl,iz,fm,fn, -,O⟩;have E5:Hid ((Zcp s7 false).bind (A9 16)=(Zcp r2 q2).map (Prod.mk nn.toNat)):=O;clear O;have g7:nn<65536:=by simpa using fn
  clear fn;replace N:=N.but z W;replace o:=o.but z ay;replace A:=z.bel A B;replace Q:q<V1.heap.size:=jN Q z.size;clear D z;have D:=Y;clear Y;go_wp2_with fail;refine (Zcv pt 2 r2 q2 _ ji ji (by unfold maxLen;omega) D).mono ?_;rintro e V2 ⟨v,r3,q3,rfl,z,Y,mm,rfl,i1,fo,fp, -,O⟩;have E6:Hid ((Zcp r2 q2).bind (A9 16)=(Zcp r3 q3).map (Prod.mk mm.toNat)):=O;clear O;have g8:mm<65536:=by simpa using fp
  clear fp;replace N:=N.but z W;replace o:=o.but z ay;replace A:=z.bel A B;replace Q:q<V2.heap.size:=jN Q z.size;clear D z;have D:=Y;clear Y;go_wp2_with fail;refine (Zcv pt 2 r3 q3 _ ji ji (by unfold maxLen;omega) D).mono ?_;rintro e V3 ⟨v,r4,q4,rfl,z,Y,kk,rfl,i2,fq,fr, -,O⟩;have E7:Hid ((Zcp r3 q3).bind (A9 16)=(Zcp r4 q4).map (Prod.mk kk.toNat)):=O;clear O;have g9:kk<65536:=by simpa using fr
  clear fr;replace N:=N.but z W;replace o:=o.but z ay;replace A:=z.bel A B;replace Q:q<V3.heap.size:=jN Q z.size;clear D z;have D:=Y;clear Y;obtain ⟨n,rfl⟩:=jM fm;obtain ⟨m,rfl⟩:=jM fo;obtain ⟨k,rfl⟩:=jM fq;have az:Hid (Ko c.alg C.toNat P.toNat f.toNat L (Zcp s7 false)=JX c.alg C.toNat P.toNat f.toNat L n m k (Zcp r4 q4)):=Zfi E5.out E6.out E7.out;clear E5 E6 E7;have n3:n<=65535:=jo
  have m3:m<=65535:=jo
  have k3:k<=65535:=jo
  clear fm g7 fo g8 fq g9;have ce:=Jq qa c V H l V3 (HA.out.later A);go_wp2_with fail;refine ce.mono ?_;rintro e V4 ⟨pb,rfl,an,fs⟩;have bs:=jp fs;replace N:=N.later an;replace o:=o.later an;replace D:=D.later an;replace A:=A.trans an;replace Q:q<V4.heap.size:=jN Q an.size;clear ce fs an;obtain ⟨t0,t1, -, -⟩:=id D;cases q4
  rotate_left
  .have K : Hid (DH S U = ([], 9)) := F.out.nope (by
     by_cases hc : h.data.toList = [67, 80]
     . rw [I.out.1 hc, az.out]; rfl
     . exact I.out.2 hc)
   clear I az
   go_wp2
   go_ret2
   exact ZcD.no A _ ji K.out
  cases bt:(h.toList==[67,80])
  .have K : Hid (DH S U = ([], 9)) := F.out.nope (I.out.2 fun hc => (by
     have e : h.toList = [67, 80] := by rw [ByteArray.toList_eq]; exact hc
     rw [e] at bt
     cases bt))
   clear I az
   go_wp2
   go_ret2
   exact ZcD.no A _ ji K.out
  have bu:Hid (Dl c.alg S=JX c.alg C.toNat P.toNat f.toNat L n m k (Zcp r4 false)):=(I.out.1 (by rw [<-ByteArray.toList_eq];exact beq_iff_eq.1 bt)).trans az.out;clear I az;have cf:pt<V4.heap.size:=jF t0;go_upto_if 87 with fail
  go_cut [19] (fun u wc=>V4=wc/\∃sz:Nat,sz<=9/\u= .int .i64 (sz:Int)/\Hid (CO c.alg+CX 1 c.alg L.length=8 * sz))
  case first=>
   cases pb
   .have db:Hid (CO c.alg+CX 1 c.alg L.length=8 * 2):=by
     show _=_;have hp:=ZaF bs.out;simp [CO,CX,hp]
    go_wp2
    go_meet
    case rel=>exact ⟨rfl,2,ji,rfl,db⟩
   .have db:Hid (CO c.alg+CX 1 c.alg L.length=8 * 9):=by
     show _=_;have hp:=ZaF bs.out;simp [CO,CX,hp]
    go_wp2
    go_meet
    case rel=>exact ⟨rfl,9,ji,rfl,db⟩
  case rest=>
   obtain ⟨rfl,sz,hh,rfl,dc⟩:=hcut;have i3:r4.size<=1099511627776:=jo
   have hk:wrap64 ((k:Int) * (sz:Int))=((k * sz:Nat):Int):=by
    have:k * sz<=65535 * 9:=Nat.mul_le_mul k3 hh;rw [<-Int.natCast_mul];unfold wrap64;omega
   by_cases dd:r4.size=k * sz
   rotate_left
   .have ft:((r4.size:Int) !=((k * sz:Nat):Int))=true:=by rw [bne_iff_ne];omega
    have K:Hid (DH S U=([],9)):=F.out.nope (bu.out.trans (Ze3 dc.out dd));clear bu;generalize k * sz=ks at *;go_wp2;go_ret2;exact ZcD.no A _ ji K.out
   have ft:((r4.size:Int) !=((k * sz:Nat):Int))=false:=by rw [jc];omega
   have a0 : Hid (∀ (E : List EN) (ok de : Bool) (s9 :jt), ZcG r4 false (CO c.alg) (CX 1 c.alg L.length) k L E ok s9 de -> ∃ M, Dl c.alg S = some (C.toNat, P.toNat, f.toNat, L, n, m, M) /\ (ok = true -> M = E.map (Zai L)) /\ (ok = false -> ∃ e ∈ M, (L.length : Int) <= e.2)) := fun E ok de s9 hs => (by
     obtain ⟨M, h1, h2⟩ := ZeE dc.out dd hs
     exact ⟨M, bu.out.trans h1, h2⟩)
   clear dd dc bu;generalize k * sz=ks at *;go_wp2_with fail;refine (ZdG pt k pb _ L r4 false _ (by unfold maxLen;omega) D cf k3 o br.out ay).mono ?_;rintro e V5 ⟨vE,E2,ho,s9,de,rfl,z, -, -,df,it,a5,ae⟩;rw [show (if pb=true then 64 else 0)=CO c.alg from (by rw [<-ZaF bs.out];rfl),show (if pb=true then 8 else 16)=CX 1 c.alg L.length from (by rw [<-ZaF bs.out];rfl)] at ae;obtain ⟨M,fu,fv,fw⟩:=a0.out _ _ _ _ ae;have Z:=jp fu;have ba:=jp fv;have bb:=jp fw;clear ae fu fv fw a0;have fx:=N.but z W;have cg:=o.but z ay;have dg:=z.bel A B;have i4:Hid (∀g,vE.ownBlock=some g->w.heap.size<=g):=fun g hg=>jX A.size (df.2 g hg)
   have hE:=df.1;have HG:=jp a5;clear N o A D cf Q t0 t1 z df a5 hk ft bt;have ch:=Zbg qa c V H l 1 V5 (HA.out.later dg) bj.out ⟨ji,ji⟩ bk.out ⟨ji,ji⟩ b6;go_wp2_with fail;refine ch.mono ?_;rintro e V6 ⟨im,rfl,fy,ci⟩;have dh:Hid (im=Ai (BJ 1 V.toNat c H (l.map (Zai H)))):=ci
   have hq:5<=im.size/\im.size<=9000000:=by
    have h1:im.size=(BJ 1 V.toNat c H (l.map (Zai H))).length:=by rw [dh.out];simp [Ai,ByteArray.size]
    have h2:=ZdP bj.out bk.out b6;omega
   obtain ⟨fz,f0⟩:=hq;clear ch ci
   have f1:Hid ((im.extract 0 (im.size - 4)).data.toList=AK (DS 1 V.toNat c H (l.map (Zai H)))):=by
    show _=_;rw [Kr,List.drop_zero,Nat.sub_zero,dh.out,Zau,show (Ai (BJ 1 V.toNat c H (l.map (Zai H)))).size=(BJ 1 V.toNat c H (l.map (Zai H))).length from by simp [Ai,ByteArray.size],Zd1]
   clear dh;have f2:=fun wx=>Zbm (im.extract 0 (im.size - 4)) wx (by unfold maxLen;simp;omega)
   go_wp2_with fail;refine (f2 _).mono ?_;rintro e V7 ⟨d,rfl,f3,hd⟩
   have HD:Hid (d=((G9 V.toNat c H (l.map (Zai H))).toNat:Int)):=by
    show _=_;rw [hd,f1.out];rfl
   clear hd f1;have aa:=fy.trans f3;have f4:=fx.later aa;have cj:=cg.later aa;have di:=hE.later aa;have ab:=dg.trans aa;obtain ⟨gy,d8,⟨m0,m1,m2,hr,m4,m5⟩,m6,m7,m8, -,ac⟩:=HA.out.later ab;clear fx cg hE dg fy f3 aa f2 fz f0
   obtain ⟨bv,ah,rfl,hz⟩:∃ao cap,d8= .slice ao l.length cap/\l.length<=cap:=by
    rcases ac.form with ⟨rfl,rfl⟩|⟨g,cap,rfl,hc,_⟩
    .exact ⟨none,0,rfl,js⟩
    .exact ⟨_,cap,rfl,hc⟩
   have h0:Hid (l.length<=65535):=dx
   obtain ⟨i5,iu,rfl⟩:∃ao cap,vE= .slice ao E2.length cap:=by
    rcases di.form with ⟨rfl,rfl⟩|⟨g,cap,rfl,_⟩
    .exact ⟨none,0,rfl⟩
    .exact ⟨_,cap,rfl⟩
   cases eg:(C !=V)
   rotate_left
   .have K : Hid (DH S U = ([], 10)) := F.out.base Z.out fun h => (by
      have e := bne_iff_ne.1 eg
      have := h.1
      omega)
    clear Z ba bb
    go_wp2
    go_ret2
    exact ZcD.no ab _ ji K.out
   cases ed:(P !=d)
   rotate_left
   .have K : Hid (DH S U = ([], 10)) := F.out.base Z.out fun h => (by
      have e := bne_iff_ne.1 ed
      have e2 := h.2
      have e3 : d = ((G9 V.toNat c H (l.map (Zai H))).toNat : Int) := HD.out
      omega)
    clear Z ba bb
    go_wp2
    go_ret2
    exact ZcD.no ab _ ji K.out
   have bw : Hid (C.toNat = V.toNat /\ P.toNat = (G9 V.toNat c H (l.map (Zai H))).toNat) := (by
     have e1 := jc.1 eg
     have e2 := jc.1 ed
     have e3 : d = ((G9 V.toNat c H (l.map (Zai H))).toNat : Int) := HD.out
     exact ⟨by rw [e1], jo⟩)
   clear HD;cases ho
   .have K : Hid (DH S U = ([], 9)) := (F.out.on Z.out bw.out).2 fun h => (by
      obtain ⟨e, he, hl⟩ := bb.out rfl
      exact Zds ⟨e, ZfH he, Or.inr hl⟩ h.2)
    clear Z ba bb
    go_wp2
    go_ret2
    exact ZcD.no ab _ ji K.out
   have bc:Hid (Dl c.alg S=some (C.toNat,P.toNat,f.toNat,L,n,m,E2.map (Zai L))):=(by have:=Z.out;rwa [ba.out rfl] at this);clear Z ba bb;by_cases dj:l.length<n+m
   .have ck:decide ((n:Int)+(m:Int)>(l.length:Int))=true:=jL jo;have K:Hid (DH S U=([],9)):=(F.out.on bc.out bw.out).2 fun h=>(by have:=h.1;omega)
    clear dj;go_wp2;go_ret2;exact ZcD.no ab _ ji K.out
   have ck:decide ((n:Int)+(m:Int)>(l.length:Int))=false:=jK jo;have bx:=jp dj;go_upto_region 34 with fail
   clear eg ed dj ck;have h4:n<=l.length:=by have:=bx.out;omega
   have i6:m<=l.length:=by have:=bx.out;omega
   have i7:=h0.out;have dk:=fun wx=>PL wx bv l.length ah n jo
   go_wp2_with (first|(at_builtin;refine Fn _ rfl _ _ 83 rfl V7.heap.size 146 i0 (.agg #[.string ByteArray.empty,.int .i64 0,.int .i64 0]) 3 32 Tryz.underlying83 hi cs ct cu rfl ji _ 0 [] rfl ?o1 _ n (Av (l.take n)) rfl ?o2 ?c1 ?c2 ?c3 ?c4 ?c5 ?_))
   case o1=>exact World.ownsRow_nil _ _ _ _
   case o2=>exact MD ac h4
   case c1=>rw [Iv];simp;omega
   case c2=>exact Ja _
   case c3=>unfold maxLen;omega
   case c4=>omega
   case c5=>exact jH _
   intro v8 V8 bd ai;have ap:Aa V7 V8:=(jD _).grown ai (fun g hg=>by cases hg);have aj:V8.ownsRow V7.heap.size 146 3 v8 n (Av (l.take n)):=by simpa using bd
   have dl:=jp aj;have n8:=ap.cell m8;have cl:=di.later ap;have f5:=ac.later ap;have h5:=ap.size;have f6:=jp ac;clear bd aj ai dk m0 m1 m2 hr m4 m5 m6 m7 di ac;go_wp2_with (first|(at_builtin;refine Fn _ rfl _ _ 83 rfl V7.heap.size 146 i0 (.agg #[.string ByteArray.empty,.int .i64 0,.int .i64 0]) 3 32 Tryz.underlying83 hi cs ct cu rfl ji v8 n (Av (l.take n)) rfl dl.out _ E2.length (Av (E2.take E2.length)) rfl ?o2 ?c1 ?c2 ?c3 ?c4 ?c5 ?_))
   case o2=>exact MD cl (jH _)
   case c1=>rw [Iv];simp
   case c2=>exact Ja _
   case c3=>unfold maxLen;omega
   case c4=>omega
   case c5=>exact h5
   intro v9 V9 be ak;have bf:Aa V7 V9:=ap.grown ak (fun g hg=>(World.ownsRow.lt dl.out g hg).1);have bz:=jp be;clear be ak n8 cl f5 ap;obtain ⟨em,dm⟩:∃em:Nat,em=l.length - m:=⟨_,rfl⟩;have h6:IntKind.i64.wrap ((l.length:Int) - (m:Int))=(em:Int):=by rw [IntKind.wrap_i64,dm];omega
   have cm:em<=l.length:=jo
   have dn:=jp dm;have h7:=fun wx=>PE wx bv l.length ah em cm
   have i8:=bf.size;clear dm;generalize f7:GY bv l.length ah em=cv at *;have f9:=jp f7;clear f7;have iv:qa<V9.heap.size:=World.block_lt_of_cell? _ _ (bf.cell m8);go_upto_region 36 with fail
   go_region_held_law (fun w'=>Aa V7 w'/\w'.cell? ⟨qa,8,none⟩=some (.slice bv l.length ah)) ((exact ⟨jq,Aa.cell (a:=V7) jq m8⟩))
    ((refine Tf rfl (.tmp 144) (.tmp 156) 83 rfl V7.heap.size 146 i0 (.agg #[.string ByteArray.empty, .int .i64 0, .int .i64 0]) 3 32 Tryz.underlying83 hi cs ct cu rfl ji v9 (n + E2.length) (Av (l.take n) ++ Av E2) (by simp [Act.eval]) (I6 bz.out (by exact jq)) cv (l.length - em) (Av (l.drop em)) (by simp [Act.eval]) (f9.out ▸ Nh (Cl.later f6.out (by exact jq)) cm) (by rw [Iv, jh]) (Ja _) (by unfold maxLen; omega) jo (by simp; omega) ?_
      intro h8 b1 al J
      have am : Aa V7 b1 := by
        first
        | exact bf.grown J (fun g hg => (World.ownsRow.lt bz.out g hg).1)
        | exact (bf.step_drew).grown J (fun g hg => (World.ownsRow.lt bz.out g hg).1)
      have gb := jp al
      clear al J))
   all_goals
    obtain ⟨i,aq⟩:∃i,i=l.take n++E2++l.drop em:=⟨_,rfl⟩;have cn:i.length=n+E2.length+(l.length - em):=by rw [aq];simp;omega
    have gc:Hid (b1.ownsRow V7.heap.size 146 3 h8 i.length (Av i)):=by
     have h1:=gb.out;show b1.ownsRow _ _ _ _ _ _;rw [cn,aq,Kc,Kc];simpa using h1
    have dp:Hid (∀x∈i,Af x.2.1/\Af x.2.2):=by
     intro x hx;rw [aq] at hx;rcases jT.1 hx with h|h
     .rcases jT.1 h with h|h
      .exact bk.out x (List.mem_of_mem_take h)
      .exact (HG.out x h).2
     .exact bk.out x (List.mem_of_mem_drop h)
    have gd:i.length<=140000:=by have:=bx.out;have:=dn.out;omega
    have ge : Hid ((∀ x ∈ i, ∃ b ∈ L, b.1 = x.1) -> (Zcw c f L i -> DH S U = (BJ 1 f.toNat c L (i.map (Zai L)), 0)) /\ (¬ Zcw c f L i -> DH S U = ([], 9))) := fun co => (by
      have hw := dp.out
      rw [aq] at co hw |-
      exact Zd7 F.out bc.out bw.out br.out (by have := bx.out; omega) dn.out bj.out.1 b9 co hw)
    have dq : Hid ((∃ x ∈ i, ¬ ∃ b ∈ L, b.1 = x.1) -> DH S U = ([], 9)) := fun gf => (by
      rw [aq] at gf
      exact (F.out.on bc.out bw.out).2 fun h => Zds (Zfh F.out.good F.out.ids dn.out (fun x hx => (HG.out x hx).1) gf) h.2)
    obtain ⟨ad,G,rfl, -,bg⟩:=Pj gc.out;have af:=cj.later am;have cp:=f4.later am;have bh:=ab.trans am;have gg:Hid (∀g,(Value.slice ad i.length G).ownBlock=some g->w.heap.size<=g):=fun g hg=>jX ab.size (World.ownsRow.lt gc.out g hg).1
    clear gb aq cn cj f4 ab bf am h6 h7 m8 f6 f9 dl bz;go_wp2;go_loopg [25] i.length (fun r vq wr=>Aa b1 wr/\∃t:Nat,t<=i.length/\r=i.length - t/\vq= .int .i64 t/\∀j (h:j<i.length),j<t->∃b∈L,b.1=i[j].1)
    case atStart=>exact ⟨jD _,0,jo,jo,rfl,fun j _ h=>by omega⟩
    case round=>
     obtain ⟨R,t,ht,i9,rfl,gh⟩:=hrel;have gi:=jp gh;clear gh;by_cases b2:t<i.length
     .have h9:decide ((t:Int)<(i.length:Int))=true:=jL jo;rcases bg.form with ⟨-,bi⟩|⟨g3,iw,hv, -, -,gj⟩
      .rw [bi] at b2;simp at b2
      simp only [Value.slice.injEq,true_and] at hv;obtain ⟨rfl,rfl⟩:=hv;have e0:=R.cell (gj t b2).1
      have ia:Hid ((∃y∈L,y.1=i[t].1)->∀j (h:j<i.length),j<t+1->∃b∈L,b.1=i[j].1):=fun hy j h1 h2=>by
       by_cases hj:j=t
       .subst hj;exact hy
       .exact gi.out j h1 jo
      have ib : Hid ((∀ j (h : j < L.length), L[j].1 ≠ i[t].1) -> DH S U = ([], 9)) := fun hn => dq.out ⟨i[t], jJ b2, fun ⟨b, hb, e⟩ => (by
        obtain ⟨j, hj, rfl⟩ := List.getElem_of_mem hb
        exact hn j hj e)⟩
      clear gj;generalize i[t].1=T at *;go_wp2;generalize wr=wo at *;go_loopg [26,27] L.length (fun r vi vo wx=>Aa wo wx/\∃(u:Nat) (b:Bool),u<=L.length/\r=L.length - u/\vo= .int .i64 u/\vi= .bool b/\(b=true->∃y∈L,y.1=T)/\Hid (b=false->∀j (h:j<L.length),j<u->L[j].1≠T))
      case atStart=>exact ⟨jD _,0,false,jo,jo,rfl,rfl,fun h=>(by cases h),fun _ j _ hj=>jo⟩
      case round=>
       obtain ⟨ag,u,b,z,ka,rfl,rfl,gk,b3⟩:=hrel;have gl:=jp gk;clear gk;by_cases b4:u<L.length
       .have ic:decide ((u:Int)<(L.length:Int))=true:=jL jo;have kb:=ag.cell e0;cases b
        .rcases af.form with ⟨-,bi⟩|⟨gB,ie,hv, -, -,gm⟩
         .rw [bi] at b4;simp at b4
         simp only [Value.slice.injEq,true_and] at hv;obtain ⟨rfl,rfl⟩:=hv;have b0:=ag.cell (R.cell (gm u b4).1);have gn:Hid ((L[u].1.toList==T.toList)=true↔L[u].1=T):=FE;have HM:Hid (L[u].1=T->∃y∈L,y.1=T):=fun e=>⟨L[u],jJ b4,e⟩
         have cq : Hid (L[u].1 ≠ T -> ∀ j (h : j < L.length), j < u + 1 -> L[j].1 ≠ T) := fun hn j hj kc => (by
           by_cases e : j = u
           . subst e; exact hn
           . exact b3.out rfl j hj jo)
         clear gm;generalize L[u].1=lu at *;cases dr:(lu.toList==T.toList)
         .have ig:=jp (cq.out fun e=>by rw [gn.out.2 e] at dr;cases dr);clear cq b3;go_wp2_with fail;go_quiet (fail);go_wp2;go_roundg (L.length - (u+1))
          case measure=>omega
          case rel=>exact ⟨ag.trans jq,u+1,false,jo,rfl,by go_num,rfl,fun h=>(by cases h),fun _=>ig.out⟩
         .have HY:=jp (HM.out (gn.out.1 dr));go_wp2_with fail;go_quiet (fail);go_wp2;go_roundg (L.length - (u+1))
          case measure=>omega
          case rel=>exact ⟨ag.trans jq,u+1,true,jo,rfl,by go_num,rfl,fun _=>HY.out,fun e=>(by cases e)⟩
        .go_wp2_with fail;go_quiet (fail);go_wp2;go_roundg (L.length - (u+1))
         case measure=>omega
         case rel=>exact ⟨ag.trans jq,u+1,true,jo,rfl,by go_num,rfl,fun _=>gl.out js,fun e=>(by cases e)⟩
       .have ic:decide ((u:Int)<(L.length:Int))=false:=jK jo;have ih:=bh.trans (R.trans ag);cases b
        .have K:Hid (DH S U=([],9)):=ib.out fun j hj=>b3.out rfl j hj jo
         clear b3;go_wp2;go_ret2;exact ZcD.no ih _ ji K.out
        .have ii:=R.trans ag;go_wp2;go_roundg (i.length - (t+1))
         case measure=>omega
         case rel=>exact ⟨ii,t+1,jo,rfl,by go_num,ia.out (gl.out js)⟩
     .have h9:decide ((t:Int)<(i.length:Int))=false:=jK jo
      have cr:Hid (∀x∈i,∃b∈L,b.1=x.1):=fun x hx=>by
       obtain ⟨j,hj,rfl⟩:=List.mem_iff_getElem.1 hx;exact gi.out j hj jo
      have hX:=cp.later R;have c8:=(hX 8 _ rfl).1;have f8:=(hX 8 _ rfl).2;have ds:=hX.set 8 (.slice ad i.length G);have dt:Am (wr.setCell ⟨q,8,none⟩ (.slice ad i.length G)) (.slice fk L.length cd) L:=(af.later R).set_x (hX 0 _ rfl).1;have du:Cl (wr.setCell ⟨q,8,none⟩ (.slice ad i.length G)) (.slice ad i.length G) i:=(bg.later R).set_x (hX 0 _ rfl).1;have go:Bz (wr.setCell ⟨q,8,none⟩ (.slice ad i.length G)) q c f L i:=Bz.of_blk ds dt du;have gp:Hid (CL w.heap.size (wr.setCell ⟨q,8,none⟩ (.slice ad i.length G)) q c f L i):=CL.of_blk ds dt du bo g0.out gg.out;have ij:Aa w (wr.setCell ⟨q,8,none⟩ (.slice ad i.length G)):=(bh.trans R).step_set (p:=⟨q,8,none⟩) bo _
      have gq:c.Fit:=by
       obtain ⟨a1,a2,a3,a4, -,a6,a7,a8,a9,ik,kd,ke⟩:=bj.out.1;exact ⟨⟨jo,jo⟩,⟨jo,jo⟩,⟨jo,jo⟩,⟨jo,jo⟩,⟨jo,jo⟩,by rw [ik];unfold maxLen;omega⟩
      have gr:=Zdv q c f L i _ go gq br.out.1 gd dp.out;have gs:=jp (ge.out cr.out);clear hX ds dt du go cp af bg bh R;go_wp2_with fail;refine gr.mono ?_;rintro e W9 ⟨il,rfl,gt,b5⟩;have gu:=ij.trans gt;have io:=jp (gp.out.later gt);clear gr;cases il
      .have K:Hid (DH S U=([],9)):=gs.out.2 fun h=>(by have:=b5.2 h;cases this)
       clear b5;go_wp2;go_ret2;exact ZcD.no gu _ ji K.out
      .have gv:=jp (b5.1 rfl);clear b5;go_wp2;go_ret2;obtain ⟨ip,⟨kf,kg⟩, -,dk, -⟩:=id gv.out;exact ⟨_,_,rfl,gu,fun h=>absurd rfl h,fun _=>⟨q,f,L,i,rfl,io.out,⟨ip,⟨jo,jo⟩,br.out.1,gd,cr.out,fun hp=>(dk hp).elim (fun k=>Or.inr k.2) (fun k=>Or.inl k.2)⟩,dp.out,b9,gs.out.1 gv.out⟩⟩
theorem Zd4 (U:Aw) (s:Nat) (x:WG) (A B C:Int) (S:jt) (w:jj) (h:Ao U s x w) (hs:s<=150000) (hA:Aj A) (hB:Aj B):
  Calls Tryz.prog 33 #[.pointer (some ⟨x.p,0,none⟩),AB 22 A B C S] w (Hg U x.p (s+1)):=by
 have V:=fun d (b:Aa w d)=>FI U s x A d (h.later b) hs hA
 have W:=fun d (b:Aa w d)=>FI U s x B d (h.later b) hs hB
 have y:Hid (∀d,Aa w d->Hg U x.p (s+1) (.returned (.bool true)) d):=fun d hb=>⟨rfl,x,(h.later hb).up jo,rfl⟩
 generalize x.p=p at *;clear h;unfold AB;go_enter Tryz.func33,Tryz.ntmps33;go_wp2_with fail;obtain ⟨wo,X,K,o0,o1,o2,o3,o4⟩:=BV w (.int .i64 22) (.int .i64 A) (.int .i64 B) (.int .i64 C) (.string S) 28;rw [X];clear X;generalize w.heap.size=po at o0 o1 o2 o3 o4 |-;refine (V _ K).mono ?_;rintro e w1 ⟨a,rfl,t,Y⟩;have q2:=t.cell o2;have q0:=t.cell o0;have o:=K.trans t;clear V o0 o1 o2 o3 o4 t K;go_wp2_with fail;refine (W _ o).mono ?_;rintro e w2 ⟨b,rfl,L,ae⟩;have r0:=L.cell q0;have z:=o.trans L;clear W q0 q2 L o;go_wp2_with fail;refine (Zc1 a w2 Y).mono ?_;rintro e w3 ⟨vx,fx,af,rfl,M,N,O⟩;have r1:=M.cell r0;have D:=z.trans M;clear r0 M z;go_wp2_with fail;refine (Zc1 b w3 ae).mono ?_;rintro e w4 ⟨vy,fy,ap,rfl,q, -, -⟩;have r2:=q.cell r1;have g:=D.trans q;clear r1 D;obtain ⟨F,k⟩:∃F,F=Ai (Jm a.data.toList).1:=⟨_,rfl⟩;obtain ⟨G,l⟩:∃G,G=Ai (Jm a.data.toList).2.1:=⟨_,rfl⟩;obtain ⟨P,m⟩:∃P:Int,P=((Jm a.data.toList).2.2.1:Int):=⟨_,rfl⟩;obtain ⟨Z,r⟩:∃Z,Z=(Jm a.data.toList).2.2.2:=⟨_,rfl⟩;have i:=fun d=>(Sh a d Y).mono (fun e w' hr=>(show e= .returned (.tuple #[.string F,.string G,.int .i64 P,.int .i64 Z])/\Aa d w' from by rw [k,l,m,r];exact hr))
 cases af
 .have aa:=N rfl;have hd:Jm a.data.toList=([],[],0,9):=by unfold Jm;rw [aa]
  rw [hd] at k l m r;obtain rfl:F=ByteArray.empty:=k;obtain rfl:G=ByteArray.empty:=l;obtain rfl:P=0:=m;obtain rfl:Z=9:=r;clear N O aa hd q;go_wp2_with fail;refine (i _).mono ?_;rintro e W5 ⟨rfl,f⟩;have r3:=f.cell r2;have H:=g.trans f;clear r2 g f i;go_wp2
  all_goals
   go_ret;exact y.out _ jq
 .obtain ⟨pp,c,n,Bx,E,rfl, -,I,Q,hW,ak,al, -,ag,hG, -,ab⟩:=O rfl;have R:=(I.later q).state;have hd:Jm a.data.toList=(BJ 1 n.toNat c Bx (E.map (Zai Bx)),BJ 2 n.toNat c Bx (E.map (Zai Bx)),n.toNat,0):=by unfold Jm;rw [ab];rfl
  rw [hd] at k l m r;obtain rfl:Z=0:=r;have ah:P=n:=by rw [m];exact Int.toNat_of_nonneg jo
  have u:=fun d (b:Aa w4 d)=>(Zbg pp c n Bx E 1 d (R.later b) Q ⟨ji,ji⟩ hW ⟨ji,ji⟩ jo).mono (fun e w' hr=>(show En d (TQ F) e w' from by rw [k];exact hr))
  have v:=fun d (b:Aa w4 d)=>(Zbg pp c n Bx E 2 d (R.later b) Q ⟨ji,ji⟩ hW ⟨ji,ji⟩ jo).mono (fun e w' hr=>(show En d (TQ G) e w' from by rw [l];exact hr))
  have am:(F.toList==F.toList)=true:=FE.2 rfl;have an:(G.toList==G.toList)=true:=FE.2 rfl;obtain ⟨vB,vE, -,s6, -⟩:=R;clear N O ab hd k l m q I Q hW hG ag;go_wp2_with fail;refine (i _).mono ?_;rintro e W5 ⟨rfl,f⟩;have r3:=f.cell r2;have H:=g.trans f;have ac:=f.cell s6;have u:=fun d (b:Aa W5 d)=>u d (f.trans b)
  have v:=fun d (b:Aa W5 d)=>v d (f.trans b)
  clear r2 g f i s6;subst ah;go_wp2_with fail;refine (u _ (jD _)).mono ?_;rintro e w6 ⟨m1,rfl,T,ai⟩;obtain rfl:m1=F:=ai;go_wp2_with fail;refine (v _ T).mono ?_;rintro e w7 ⟨m2,rfl,ad,aj⟩;obtain rfl:m2=G:=aj;have J:=T.trans ad;have t6:=J.cell ac;have ao:=H.trans J;have aq:(P==P)=true:=js
  clear u v T ad ac;go_wp2
  all_goals
   go_ret;exact y.out _ jq
def ZcE (base:Nat) (v:ju) (w:jj) (S:jy):Prop:=∃(p:Nat) (c:Ac) (a:Int) (B:List BK) (E:List EN) (f:Nat),v= .pointer (some ⟨p,0,none⟩)/\CL base w p c a B E/\Dh c a B E/\(∀x∈E,Af x.2.1/\Af x.2.2)/\(1<=a/\a<=1073741824)/\c.formats=3/\AH B/\Bj S=some (f,a.toNat,{c with formats:=0},B,E.map (Zai B))
theorem ZcE.mk {base:Nat} {v:ju} {d w w':jj} {S:jy} {f:Int} (h:∃(p:Nat) (c:Ac) (a:Int) (B:List BK) (E:List EN),v= .pointer (some ⟨p,0,none⟩)/\d.heap.size<=p/\CL d.heap.size w p c a B E/\Dh c a B E/\(∀x∈E,Af x.2.1/\Af x.2.2)/\1<=a/\a<=1073741824/\c.formats=3/\E.length<=65535/\AH B/\(1<=f/\f<=2)/\Bj S=some (f.toNat,a.toNat,{c with formats:=0},B,E.map (Zai B))) (b:Aa w w') (k:base<=d.heap.size):ZcE base v w' S:=by
 obtain ⟨p,c,a,B,E,l, -,m,n,o,q,r,s, -,g, -,i⟩:=h;exact ⟨p,c,a,B,E,_,l,(m.from k).later b,n,o,⟨q,r⟩,s,g,i⟩
theorem ZcE.later {base:Nat} {v:ju} {w w':jj} {S:jy} (h:ZcE base v w S) (b:Aa w w'):ZcE base v w' S:=by
 obtain ⟨p,c,a,B,E,f,d,g,r⟩:=h;exact ⟨p,c,a,B,E,f,d,g.later b,r⟩
theorem Zfy {a b:jy} (h:Bj a=none):DN a b=([],9):=by
 unfold DN;rw [h]
theorem Ze6 {a b:jy} (h:Bj b=none):DN a b=([],9):=by
 unfold DN;rw [h];cases Bj a <;>rfl
theorem ZeF {c d:Ac} (h:Ll c d=false):c=d:=by
 unfold Ll at h;simp only [Bool.not_eq_false',Bool.and_eq_true,beq_iff_eq] at h;obtain ⟨b,f,g,i,l,k⟩:=h;have a:c.key=d.key:=FE.1 (by simpa using l);obtain ⟨m,n,o,p,q,r⟩:=c;obtain ⟨s,t,u,v,w,x⟩:=d;simp only at b f g i a k;subst b f g i a k;rfl
theorem ZeB (c:Ac):Ll c c=false:=by
 unfold Ll;simp
theorem Zfm {a b:jy} {g i k l:Nat} {c d:Ac} {m n:List BK} {o p:List EI} (q:Bj a=some (g,k,{c with formats:=0},m,o)) (r:Bj b=some (i,l,{d with formats:=0},n,p)) (f:c.formats=d.formats) (h:Ll c d=true):DN a b=([],9):=by
 unfold DN;rw [q,r];simp only;rw [if_neg];intro e
 have:c=d:=by
  obtain ⟨s,t,u,v,w,x⟩:=c;obtain ⟨y,z,A,B,C,D⟩:=d;simp only [Ac.mk.injEq] at e f |-;exact ⟨e.1,e.2.1,e.2.2.1,e.2.2.2.1,e.2.2.2.2.1,f⟩
 rw [this,ZeB] at h;cases h
theorem ZeR (J:Aw) (s:Nat) (x:WG) (A B C:Int) (S:jt) (w:jj) (h:Ao J s x w) (hs:s<=150000) (hA:Aj A) (hB:Aj B):
  Calls Tryz.prog 33 #[.pointer (some ⟨x.p,0,none⟩),AB 23 A B C S] w (Hg J x.p (s+1)):=by
 have ab:=fun f (b:Aa w f)=>FI J s x A f (h.later b) hs hA
 have ac:=fun f (b:Aa w f)=>FI J s x B f (h.later b) hs hB
 have i:=fun (t:jt) (ht:t.size<=16777216) f (b:Aa w f)=>No J s x t f w h b hs jo
 have k:Hid (∀f,Aa w f->Hg J x.p (s+1) (.returned (.bool true)) f):=fun f hb=>⟨rfl,x,(h.later hb).up jo,rfl⟩
 generalize x.p=p at *;clear h;have ax:∀f,Aa w f->w.heap.size<=f.heap.size:=fun f b=>b.size
 unfold AB;go_enter Tryz.func33,Tryz.ntmps33;go_wp2_with fail;obtain ⟨wo,ad,K,o0,o1,o2,o3,o4⟩:=BV w (.int .i64 23) (.int .i64 A) (.int .i64 B) (.int .i64 C) (.string S) 28;rw [ad];clear ad;generalize ay:w.heap.size=po at o0 o1 o2 o3 o4 |-;clear ay;refine (ab _ K).mono ?_;rintro e w1 ⟨a,rfl,u,ae⟩;have q2:=u.cell o2;have q0:=u.cell o0;have l:=K.trans u;clear ab o0 o1 o2 o3 o4 u K;go_wp2_with fail;refine (ac _ l).mono ?_;rintro e w2 ⟨b,rfl,L,af⟩;have r0:=L.cell q0;have n:=l.trans L;clear ac q0 q2 L;go_wp2_with fail;refine (Zc1 a w2 ae).mono ?_;rintro e w3 ⟨vx,fx,N,rfl,O,v,hx⟩;have r1:=O.cell r0;have o:=n.trans O;clear r0;go_wp2_with fail;refine (Zc1 b w3 af).mono ?_;rintro e w4 ⟨vy,fy,P,rfl,y,z,hy⟩;have r2:=y.cell r1;have I:=o.trans y;have ag:N=true->ZcE w.heap.size vx w4 a.data.toList:=fun e=>ZcE.mk (hx e) y n.size
 have ah:P=true->ZcE w.heap.size vy w4 b.data.toList:=fun e=>ZcE.mk (hy e) (jD _) o.size
 clear r1 hx hy y O l n o ax;go_wp2_with fail;obtain ⟨D,c⟩:∃D,D=Ai (DN a.data.toList b.data.toList).1:=⟨_,rfl⟩;obtain ⟨Q,d⟩:∃Q,Q=(DN a.data.toList b.data.toList).2:=⟨_,rfl⟩;have az:D.size<=16777216:=by rw [c,NG];exact QQ _ _
 refine ((XU a b _ ae af).mono (fun e w' hr=>(show e= .returned (.tuple #[.string D,.int .i64 Q])/\Aa w4 w' from by rw [c,d];exact hr))).mono ?_;rintro e W5 ⟨rfl,q⟩;have r3:=q.cell r2;have ai:=I.trans q;have E:N=true->ZcE w.heap.size vx W5 a.data.toList:=fun e=>(ag e).later q
 have F:P=true->ZcE w.heap.size vy W5 b.data.toList:=fun e=>(ah e).later q
 have i:=i D az;clear r2 I ag ah q;cases N
 .have g:DN a.data.toList b.data.toList=([],9):=Zfy (v rfl);rw [g] at c d;obtain rfl:D=ByteArray.empty:=c;obtain rfl:Q=9:=d;clear E F i v z g;go_wp2_with fail;go_quiet (fail);go_wp2
  all_goals
   go_ret;exact k.out _ jq
 .cases P
  .have g:DN a.data.toList b.data.toList=([],9):=Ze6 (z rfl);rw [g] at c d;obtain rfl:D=ByteArray.empty:=c;obtain rfl:Q=9:=d;clear E F i v z g;go_wp2_with fail;go_quiet (fail);go_wp2
   all_goals
    go_ret;exact k.out _ jq
  .obtain ⟨px,G,gx,Bx,Ex,f1,rfl,R,aj,ak,a4,al,a0,T⟩:=E rfl;obtain ⟨py,H,gy,By,Ey,f2,rfl,U,am,an,a5,ao,a1,V⟩:=F rfl;have W:Hid (Ll G H=false->G=H):=ZeF;have X:Hid (Ll G H=true->DN a.data.toList b.data.toList=([],9)):=fun e=>Zfm T V (by rw [al,ao]) e
   have Y:Hid (∀t,G=H->ZcZ gx gy G H Bx By Ex Ey t->Ai (DN a.data.toList b.data.toList).1=t/\(DN a.data.toList b.data.toList).2=0):=fun t e ht=>Zeu T V e a0 a1 aj.2.2.2.2.1 am.2.2.2.2.1 ak an ht
   obtain ⟨a6,a7,⟨⟨x0,x1,x2,x3,x4,x5⟩, -⟩, -⟩:=id R;obtain ⟨a8,a9,⟨⟨y0,y1,y2,y3,y4,y5⟩, -⟩, -⟩:=id U;have ba:=UQ G H;have bb:=jF x0;have bc:=jF y0;generalize Ll G H=ne at *;have Z:=jp R;have aa:=jp U;clear E F R U v z T V al ao;cases ne
   .have ap:=W.out rfl;have aq:∀t,ZcZ gx gy G H Bx By Ex Ey t->t=D/\Q=0:=fun t ht=>(by obtain ⟨q1,q2⟩:=Y.out t ap ht;rw [c,d];exact ⟨q1.symm,q2⟩)
    have ar:=jp aq;clear aq ap W X Y c d;go_wp2_with fail;go_quiet (fail);go_wp2_with fail;refine (i _ (ai.trans jq)).mono ?_;rintro e w6 ⟨rfl,⟨a2,h2,a3⟩,au⟩
    have r:L6 w.heap.size W5 w6:=by
     obtain ⟨M,hb,hM⟩:=au;exact ⟨M,(Ab.of_bel jq).trans hb,hM⟩
    have av:=Ze8 px py G H gx gy Bx By Ex Ey w6 (Z.out.kept r).state aj ak (aa.out.kept r).state am an jo jo;have H2:Hid (∀f,Aa w6 f->Hg J p (s+1) (.returned (.bool true)) f):=fun f hb=>⟨rfl,a2,h2.later hb,a3⟩
    clear h2 au r Z aa i k;go_wp2_with fail;refine av.mono ?_;rintro e w7 ⟨m,rfl,bd,aw⟩;obtain ⟨rfl,rfl⟩:=ar.out m aw;have be:(m.toList==m.toList)=true:=FE.2 rfl;clear av aw ar;go_wp2
    all_goals
     go_ret;exact H2.out _ jq
   .have g:=X.out rfl;rw [g] at c d;obtain rfl:D=ByteArray.empty:=c;obtain rfl:Q=9:=d;clear i Z aa W X Y g;go_wp2_with fail;go_quiet (fail);go_wp2
    all_goals
     go_ret;exact k.out _ jq
end Go.Proofs.YtpapdkhjdelfcaaGreat
