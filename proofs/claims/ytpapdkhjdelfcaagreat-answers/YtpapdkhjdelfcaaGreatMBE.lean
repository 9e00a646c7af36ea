import Derived.Test.YtpapdkhjdelfcaaGreatMBD
namespace Go.Proofs.YtpapdkhjdelfcaaGreat
open Go.RowKit
set_option maxRecDepth 100000
set_option maxHeartbeats 4000000
def Fj (x:EN):NI:=(wv x.2.1 x.2.2,x.1)
def F7 (B:List BK) (e:EI):NI:=(e.1,A7 B e.2)
def BU (c:Ac) (B:List BK) (E:List EN):Prop:=E.map Fj=(An c B).map (F7 B)
def Fx (w:jj) (c:Ac) (B:List BK) (e:Ending) (w':jj):Prop:=∃(v:ju) (E:List EN),e= .returned v/\Aa w w'/\Dz w.heap.size w' v E/\E.length<=140000/\(∀x∈E,DZ B x)/\(¬EV c->E=[]\/(E.length:Int)=c.slots)/\BU c B E
theorem BU.none {c:Ac} {B:List BK} (h:As B<1):BU c B []:=by
 unfold BU An;rw [if_pos h];rfl
def Ed (w:jj) (v:ju) (k:Nat) (L:List EN) (u:ju) (X:Int) (a:jj):Prop:=∃S:jj,Aa w S/\S.ownsRow w.heap.size 146 3 v k (Av L)/\Aa S a/\AX S.heap.size a u X
theorem Ed.bel {w:jj} {v:ju} {k:Nat} {L:List EN} {u:ju} {X:Int} {a:jj} (h:Ed w v k L u X a):Aa w a:=by
 obtain ⟨S,b,_,c,_⟩:=h;exact b.trans c
theorem Ed.later {w:jj} {v:ju} {k:Nat} {L:List EN} {u:ju} {X:Int} {a wy:jj} (h:Ed w v k L u X a) (b:Aa a wy):Ed w v k L u X wy:=by
 obtain ⟨S,c,d,f,g⟩:=h;exact ⟨S,c,d,f.trans b,g.later b⟩
theorem Ed.own {w:jj} {v:ju} {k:Nat} {L:List EN} {u:ju} {X:Int} {a:jj} (h:Ed w v k L u X a):a.ownsRow w.heap.size 146 3 v k (Av L):=by
 obtain ⟨S,_,b,c,_⟩:=h;exact I6 b c
theorem Ed.open {w:jj} {v:ju} {k:Nat} {L:List EN} {u:ju} {X:Int} {c:jj} (h:Ed w v k L u X c):∃(p:Nat) (x y:Int),u= .pointer (some ⟨p,0,none⟩)/\c.cell? ⟨p,0,none⟩=some (.int .i64 x)/\c.cell? ⟨p,1,none⟩=some (.int .i64 y)/\c.frozen? ⟨p,0,none⟩=false/\c.frozen? ⟨p,1,none⟩=false/\Af x/\Af y/\wv x y=X/\
  ∀(wy:jj) (a b:Int),Aa c wy->Af a->Af b->Ed w v k L u (wv a b) ((wy.setCell ⟨p,0,none⟩ (.int .i64 a)).setCell ⟨p,1,none⟩ (.int .i64 b)):=by
 obtain ⟨S,r,s,t,m⟩:=h;have z:=m;obtain ⟨p,x,y,n,f,g,i,o,q,hx,A,B⟩:=m;refine ⟨p,x,y,n,g,i,o,q,hx,A,B,fun wy a b d C l=>⟨S,r,s,?_,?_⟩⟩
 .exact ((t.trans d).step_set (p:=⟨p,0,none⟩) f _).step_set (p:=⟨p,1,none⟩) f _
 .rw [n];exact AX.stored f (d.cell g) (d.cell i) (d.frozen g o) (d.frozen i q) C l rfl
def GF (B:List BK) (p:Int×Int) (s:jt) (X:Int):Prop:=s=A7 B p.1/\X=p.2/\(p.1<0\/∃i,∃(_:i<B.length),p.1=(i:Nat))
theorem GF.emp {B:List BK} {p:Int×Int} {s:jt} {X:Int} (h:GF B p s X) (c:AL B):s.toList.isEmpty=true↔p.1<0:=by
 obtain ⟨rfl, -,a⟩:=h;rw [isEmpty_iff];constructor
 .intro h;rcases a with a|⟨i,b,d⟩
  .exact a
  .rw [d,IY b] at h;have:=(c.2 _ (jJ b)).1;omega
 .intro h;unfold A7;rw [if_pos h];rfl
theorem Vw {key:jt} {s i:Nat} {id:jt} {m:Int×Int} {k:Nat} (h:(A6 key s i id m k).1<0\/(A6 key s i id m k).2<Al key 104 [s,k] id):A6 key s i id m (k+1)=((i:Int),Al key 104 [s,k] id):=by
 rw [A6];rw [if_pos h]
theorem UP {key:jt} {s i:Nat} {id:jt} {m:Int×Int} {k:Nat} (h:¬((A6 key s i id m k).1<0\/(A6 key s i id m k).2<Al key 104 [s,k] id)):A6 key s i id m (k+1)=A6 key s i id m k:=by
 rw [A6];rw [if_neg h]
theorem Rr {key:jt} {s:Nat} {B:List BK} {i:Nat} (h:i<B.length):AV key s B (i+1)=A6 key s i B[i].1 (AV key s B i) B[i].2.toNat:=by
 rw [AV,jG h]
theorem Q7 {key:jt} {s:Nat} {B:List BK} (f:AL B) (h:(AV key s B B.length).1<0):As B<1:=by
 rcases Int.lt_or_le (As B) 1 with a|a
 .exact a
 .obtain ⟨b,c,g⟩:=ZdB a (fun b c=>(f.2 b c).2.2.1);obtain ⟨i,d,rfl⟩:=List.mem_iff_getElem.1 c;have:=((NU key s B B.length (jH _)).2.2 i d d 0 jo).1;omega
theorem Zi {key:jt} {s:Nat} {B:List BK} (a:AL B) (h:¬(AV key s B B.length).1<0):1<=As B:=by
 rcases (NU key s B B.length (jH _)).2.1 with c|⟨p,d, -, -,j,g, -⟩
 .rw [c] at h;exact absurd (show ((-1:Int),(0:Int)).1<0 by decide) h
 .exact Mu (jJ d) jo (fun b f=>(a.2 b f).2.2.1)
theorem Vb {c:Ac} {B:List BK} {L:List EN} (a:c.alg=3) (d:1<=As B) (b:L=(List.range c.slots.toNat).map fun s=>(A7 B (CS c.key B s),0,0)):BU c B L:=by
 unfold BU An;rw [if_neg jo,if_neg jo,if_neg jo,if_pos a,b,List.map_map,List.map_map];rfl
theorem Tk (c:Ac) (vB:ju) (B:List BK) (w:jj) (hc:c.OK) (hP:Am w vB B) (hB:AL B) (aq:c.alg=3):
  Calls Tryz.prog 163 #[.agg c.cells,vB] w (Fx w c B):=by
 have U:=jp hB;have ar:=jp aq;obtain ⟨i0,hi,bu,bv,bw⟩:=info_parts Tryz.infoEN;have cw:Hid c.OK:=hc;obtain ⟨-, -,k3,k4, -, -, -, -, -,k9, -, -⟩:=hc
 obtain ⟨cx,co,rfl,au⟩:∃ao cap,vB= .slice ao B.length cap/\∀j (hj:j<B.length),∃g,ao=some ⟨g,0,none⟩/\w.cell? ⟨g,j * 2,none⟩=some (.string B[j].1)/\w.cell? ⟨g,j * 2+1,none⟩=some (.int .i64 B[j].2):=by
  rcases hP.form with ⟨rfl,rfl⟩|⟨g,cap,rfl,_,_,hc⟩
  .exact ⟨_,_,rfl,fun j hj=>by simp at hj⟩
  .exact ⟨_,_,rfl,fun j hj=>⟨g,rfl,hc j hj⟩⟩
 generalize cy:c=V at *;have av:Hid (∀k,(AV V.key k B B.length).1<0->BU V B []):=fun k h=>BU.none (Q7 U.out h)
 have aw:Hid (∀L:List EN,(∃k,0<=(AV V.key k B B.length).1)->L=(List.range V.slots.toNat).map (fun s=>(A7 B (CS V.key B s),0,0))->BU V B L):=fun L ⟨k,hk⟩ hL=>Vb ar.out (Zi U.out (show ¬(AV V.key k B B.length).1<0 by omega)) hL
 clear ar aq;obtain ⟨alg,f,m,n,key,l⟩:=V;simp only at av aw;simp only at k3 k4 k9;simp only [Ac.cells];go_enter Tryz.func163,Tryz.ntmps163;go_wp2;have af:(w.alloc (.cells #[.int .i64 alg,.int .i64 f,.int .i64 m,.int .i64 n,.string key,.int .i64 l] 30)).cell? ⟨w.heap.size,1,none⟩=some (.int .i64 f):=by simp
 have ag:(w.alloc (.cells #[.int .i64 alg,.int .i64 f,.int .i64 m,.int .i64 n,.string key,.int .i64 l] 30)).cell? ⟨w.heap.size,4,none⟩=some (.string key):=by simp
 have A:Aa w (w.alloc (.cells #[.int .i64 alg,.int .i64 f,.int .i64 m,.int .i64 n,.string key,.int .i64 l] 30)):=jq
 have ax:w.heap.size<(w.alloc (.cells #[.int .i64 alg,.int .i64 f,.int .i64 m,.int .i64 n,.string key,.int .i64 l] 30)).heap.size:=by simp
 generalize w.alloc (.cells #[.int .i64 alg,.int .i64 f,.int .i64 m,.int .i64 n,.string key,.int .i64 l] 30)=W at *;generalize ay:w.heap.size=px at *;have bx:Hid (w.heap.size=px):=ay;clear ay;go_loopg [5,6] f.toNat (fun r v i wr=>∃(k:Nat) (L:List EN),r=f.toNat - k/\(k:Int)<=f/\i= .int .i64 k/\L.length=k/\wr.ownsRow W.heap.size 146 3 v k (Av L)/\Aa W wr/\(∀x∈L,DZ B x)/\L=(List.range k).map (fun s=>(A7 B (CS key B s),0,0))/\(0<k->∃j,0<=(AV key j B B.length).1))
 case atStart=>exact ⟨0,[],by omega,by omega,rfl,rfl,World.ownsRow_nil _ _ _ _,jD _,fun x hx=>(by simp at hx),rfl,fun h=>by omega⟩
 case round=>
  obtain ⟨k,L,hr,cz,rfl,hL,E,hb,Y,az,a0⟩:=hrel;have a5:=jp az;have bz:=jp a0;clear az a0;have d1:=hb.cell af;by_cases b2:(k:Int)<f
  .have cp:decide ((k:Int)<f)=true:=jL b2;go_wp2_with fail;have a6:Ed W u5 k L (.pointer (some ⟨wr.heap.size,0,none⟩)) 0 (wr.alloc (.cells #[.int .i64 0,.int .i64 0] 144)):=⟨wr,hb,E,jq,AX.new (jH _) Cd Cd rfl _⟩;clear E hb d1;generalize wr.heap.size=p8 at *;generalize wr.alloc (.cells #[.int .i64 0,.int .i64 0] 144)=w8 at *;go_loopg [7,9] B.length (fun r b i wx=>∃(s:jt) (j:Nat),r=B.length - j/\j<=B.length/\b= .string s/\i= .int .i64 j/\I8 B s/\∃X,Ed W u5 k L (.pointer (some ⟨p8,0,none⟩)) X wx/\GF B (AV key k B j) s X)
   case atStart=>exact ⟨_,0,by omega,by omega,rfl,rfl,Or.inl rfl,0,a6,rfl,rfl,Or.inl (by show (-1:Int)<0;decide)⟩
   case round=>
    obtain ⟨s,j,c0,hj,rfl,rfl,H,X,ah,Z⟩:=hrel;have J:=jp Z;clear Z;by_cases z:j<B.length
    .have b3:decide ((j:Int)<(B.length:Int))=true:=jL (by omega);obtain ⟨gB,rfl,b0,b1⟩:=au j z;have K:Hid (∃b∈B,b.1=B[j].1):=⟨B[j],jJ z,rfl⟩;obtain ⟨a1,a2,a3,a4⟩:=hB.2 _ (jJ z);have a7:=A.cell b0;have a8:=A.cell b1;have c6:=hB.1;clear au hP b0 b1;have a9:Hid (AV key k B (j+1)=A6 key k j B[j].1 (AV key k B j) B[j].2.toNat):=Rr z;have ba:Hid (A7 B (j:Int)=B[j].1):=IY z;have b4:=jp z;generalize B[j]=bj at *;obtain ⟨t,wt⟩:=bj;simp only at a7 a8 a1 a2 a3 a4 K a9 ba;go_wp2;go_loopg [7,10] 6 (fun r b i wx=>∃(s:jt) (q:Nat),r=6 - q/\(q:Int)<=wt/\b= .string s/\i= .int .i64 q/\I8 B s/\∃X,Ed W u5 k L (.pointer (some ⟨p8,0,none⟩)) X wx/\GF B (A6 key k j t (AV key k B j) q) s X)
     case atStart=>exact ⟨s,0,by omega,by omega,rfl,rfl,H,X,ah,J.out⟩
     case round=>
      obtain ⟨s',q,c7,hq,rfl,rfl,I,X',F,M⟩:=hrel;have C:=jp M;clear M;have b5:=F.bel.cell a7;have c8:=F.bel.cell a8;have x4:=F.bel.cell ag;by_cases cq:(q:Int)<wt
      .go_wp2_with fail;refine (Ka _ 2 _ (by omega) (by omega) (by decide)).mono ?_;rintro e w1 ⟨a,rfl,bb,ha⟩;have HA:Hid (a=DF k 2):=ha;have c9:a.size=2:=by rw [HA.out,Hm];rfl
       clear ha;go_wp2_with fail;refine (Ka _ 2 _ (by omega) (by omega) (by decide)).mono ?_;rintro e w2 ⟨d,rfl,bc,hd⟩;have HD:Hid (d=DF q 2):=hd;have da:d.size=2:=by rw [HD.out,Hm];rfl
       clear hd;obtain ⟨HV,ai⟩:∃X,X=Al key 104 [k,q] t:=⟨_,rfl⟩;have aj:=jp ai
       have b6:Hid (Cs key (((⟨#[104]⟩++a)++d)++t)=HV):=by
        show Cs key _=HV;rw [HA.out,HD.out,ai];exact So key 104 k q t
       clear ai;have bd:=(F.later bb).later bc;have aa:=bb.trans bc;have be:=aa.cell b5;have b7:=aa.cell x4;have db:gB<w2.heap.size:=jF be;have dc:px<w2.heap.size:=jF b7;go_upto_region 15 with fail
       go_cut [13] (fun u13 wc=>AX w2.heap.size wc u13 HV/\Aa w2 wc)
       case first=>
        go_region_with (go_at_call 114;refine (F2 _ _ _ k9 (by simp only [jY,show (({data:=#[104]}:jt)).size=1 from rfl];omega)).mono ?_;rintro e w3 ⟨z0,z1,rfl,b8,g0,g1,ez⟩;obtain ⟨bf,bg⟩:=b8.cells)
        all_goals
         have EZ:Hid (wv z0 z1=HV):=by
          have b9:wv z0 z1=Cs key (((⟨#[104]⟩++a)++d)++t):=ez;show wv z0 z1=HV;rw [b9,b6.out]
         clear ez;go_wp2;go_meet
         case rel=>
          have ak:Aa w2 w3:=jq
          first
           |exact ⟨AX.new ak.size g0 g1 EZ.out _,ak.step_alloc _⟩
           |exact ⟨AX.stored (jH _) ((bf _ _ (by simp)).trans (by simp;rfl)) ((bf _ _ (by simp)).trans (by simp;rfl)) ((bg _ _ (by simp)).trans (by simp)) ((bg _ _ (by simp)).trans (by simp)) g0 g1 EZ.out,(ak.step_set (p:=⟨w2.heap.size,0,none⟩) (jH _) _).step_set (p:=⟨w2.heap.size,1,none⟩) (jH _) _⟩
       case rest=>
        obtain ⟨bh,bi⟩:=hcut;have ab:=bd.later bi;have ca:=bi.cell be;obtain ⟨dd,cb,cd,rfl,cr,bk,bl,cs,ct,N,O,ac⟩:=bh;have ad:=jp ac;clear ac;obtain ⟨de,X8,Y8,E8,bm,bn,ce,cf,cg,ch,bo,ae⟩:=ab.open;have ci:=jp bo;clear bo;simp only [Value.pointer.injEq,Option.some.injEq,Addr.mk.injEq,and_true] at E8;subst E8;have HS:Hid (∀(wy:jj) (a b:Int),Aa wc wy->Af a->Af b->Ed W u5 k L (.pointer (some ⟨p8,0,none⟩)) (wv a b) ((wy.setCell ⟨p8,0,none⟩ (.int .i64 a)).setCell ⟨p8,1,none⟩ (.int .i64 b))):=ae;clear ae
        have P:Hid ((A6 key k j t (AV key k B j) q).1<0\/X'<HV->GF B (A6 key k j t (AV key k B j) (q+1)) t (wv cb cd)):=fun h=>by
         have hw:=C.out;rw [aj.out,hw.2.1] at h;rw [Vw h];refine ⟨ba.out.symm,by rw [ad.out,aj.out],Or.inr ⟨j,b4.out,rfl⟩⟩
        have al:Hid (¬((A6 key k j t (AV key k B j) q).1<0\/X'<HV)->GF B (A6 key k j t (AV key k B j) (q+1)) s' X'):=fun h=>by
         have hw:=C.out;rw [aj.out,hw.2.1] at h;rw [UP h];exact hw
        have G:=jp (C.out.emp U.out);cases o:s'.toList.isEmpty
        .have bp:Hid (0<=(A6 key k j t (AV key k B j) q).1):=by
          rcases Int.lt_or_le (A6 key k j t (AV key k B j) q).1 0 with h|h
          .rw [G.out.2 h] at o;cases o
          .exact h
         go_wp2_with fail
         refine (J7 _ _ _ _ _ cg ch N O).mono ?_
         rintro e w4 ⟨AO,rfl,D,Q⟩
         have R:Hid (AO=true↔X'<HV):=by
          have:=Q;unfold Co at this;rw [ci.out,ad.out] at this;exact this
         clear Q
         have cu:=D.cell bk
         have cv:=D.cell bl
         have df:=D.cell bm
         have dg:=D.cell bn
         have dh:=D.frozen bm ce
         have di:=D.frozen bn cf
         have dj:=D.cell ca
         cases AO
         .go_wp2
          go_roundg (6 - (q+1))
          case measure=>omega
          case rel=>exact ⟨s',q+1,rfl,by omega,rfl,by go_num,I,X',ab.later D,al.out (fun h=>h.elim (fun h=>by have h8:=bp.out;omega) (fun h=>by have h9:=R.out;first|(have:=h9.2 h;cases this)|exact h9.2 h|omega|(simp at h9;omega)))⟩
         .go_wp2
          go_roundg (6 - (q+1))
          case measure=>omega
          case rel=>exact ⟨t,q+1,rfl,by omega,rfl,by go_num,Or.inr K.out,_,HS.out _ _ _ D N O,P.out (Or.inr (by have h9:=R.out;first|exact h9.1 rfl|exact h9.1 trivial|exact h9|(simp at h9;omega)))⟩
        .go_wp2;go_roundg (6 - (q+1))
         case measure=>omega
         case rel=>exact ⟨t,q+1,rfl,by omega,rfl,by go_num,Or.inr K.out,_,HS.out _ _ _ (jD _) N O,P.out (Or.inl (G.out.1 o))⟩
      .have am:Hid (GF B (AV key k B (j+1)) s' X'):=by
        have hw:=C.out;rw [show q=wt.toNat by omega] at hw;show GF _ _ _ _;rw [a9.out];exact hw
       go_wp2
       go_roundg (B.length - (j+1))
       case measure=>omega
       case rel=>exact ⟨s',j+1,rfl,by omega,rfl,by go_num,I,X',F,am.out⟩
    .obtain rfl:j=B.length:=by omega
     have S:=ah.own;have G:=jp (J.out.emp U.out);have an:=ah.bel;cases o:s.toList.isEmpty
     .have bq:∃b∈B,b.1=s:=by
       rcases H with h|h
       .exfalso;rw [ByteArray.toList_eq] at o;have hl:s.data.toList.length=0:=by simpa using h
        rw [jS hl] at o;simp at o
       .exact h
      have cj:Hid (∃b∈B,b.1=s):=bq
      have br:Hid (0<=(AV key k B B.length).1):=by
       rcases Int.lt_or_le (AV key k B B.length).1 0 with h|h
       .rw [G.out.2 h] at o;cases o
       .exact h
      have ck:Hid (L++[(s,0,0)]=(List.range (k+1)).map (fun s=>(A7 B (CS key B s),0,0))):=by
       show L++_=_;rw [List.range_succ,List.map_append,<-a5.out,J.out.1];rfl
      clear bq H
      go_wp2_with (first|(at_builtin;refine wpList_append_own _ rfl _ _ 83 rfl W.heap.size 146 i0 (.agg #[.string ByteArray.empty,.int .i64 0,.int .i64 0]) 3 32 Tryz.underlying83 hi bu bv bw rfl (by decide) _ k (Av L) rfl ?o1 ⟨wr.heap.size,0,none⟩ 1 1 [.string s,.int .i64 0,.int .i64 0] rfl rfl ?c1 ?c2 ?c3 ?c4 ?c5 ?_))
      case o1=>exact S.alloc _
      try (case c1=>exact FX _ _ _ _ _ _ (by simp))
      case c2=>first|rfl|(intro u hu;simp at hu;rcases hu with rfl|rfl|rfl <;>rfl)
      case c3=>unfold maxLen;omega
      case c4=>omega
      case c5=>have:=an.size;simp;omega
      intro v' w6 y T _
      have cl:Aa W w6:=(an.step_alloc _).grown T (fun g hg=>(S.lt g hg).1)
      clear T
      go_wp2
      go_roundg (f.toNat - (k+1))
      case measure=>omega
      case rel=>exact ⟨k+1,L++[(s,0,0)],rfl,by omega,by go_num,by simp [hL],by rw [Gq];exact y,cl,fun x hx=>(by rcases jT.1 hx with h1|h1;exact Y x h1;(simp at h1;subst h1;exact ⟨cj.out,Cd,Cd⟩)),ck.out,fun _=>⟨k,br.out⟩⟩
     .have cm:=jp (av.out k (G.out.1 o));go_wp2;go_ret;exact ⟨_,[],rfl,A.trans an,⟨Or.inl ⟨rfl,rfl,rfl⟩,fun g hg=>(by cases hg)⟩,by simp,fun x hx=>(by simp at hx),fun _=>Or.inl rfl,cm.out⟩
  .have y:=Ap.of_owns E;rw [<-hL] at y;have ap:Dz px wr _ L:=⟨y,fun g hg=>jX (Nat.le_of_lt ax) (World.ownsRow.lt E g hg).1⟩;have bs:(L.length:Int)=f:=by omega
   have cn:Hid ((L.length:Int)=f):=bs
   have bt : Hid (BU ⟨alg, f, m, n, key, l⟩ B L) := aw.out L (bz.out (by omega)) (by
     have := a5.out
     rw [show k = f.toNat by omega] at this
     exact this)
   clear E y bs;go_wp2;go_ret;exact ⟨_,L,rfl,A.trans hb,by rw [bx.out];exact ap,by omega,Y,fun _=>Or.inr cn.out,bt.out⟩
end Go.Proofs.YtpapdkhjdelfcaaGreat
