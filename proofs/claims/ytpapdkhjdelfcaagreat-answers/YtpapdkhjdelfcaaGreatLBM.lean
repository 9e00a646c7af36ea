import Derived.Test.YtpapdkhjdelfcaaGreatLBK
namespace Go.Proofs.YtpapdkhjdelfcaaGreat
open Go.RowKit
set_option maxRecDepth 100000
set_option maxHeartbeats 4000000
def D5 (w:World) (e:Ending) (w':World):Prop:=∃(v:Value) (a:Int),e= .returned (.tuple #[v,.int .i64 a])/\Aa w w'/\
 (a=0->∃(q:Nat) (c:Ac) (b:Int) (B:List BK) (E:List EN),v= .pointer (some ⟨q,0,none⟩)/\CL w.heap.size w' q c b B E/\Dh c b B E/\∀x∈E,Af x.2.1/\Af x.2.2)
theorem D5.no {w w':World} (h:Aa w w') (a:Int) (b:a≠0):D5 w (.returned (.tuple #[.pointer none,.int .i64 a])) w':=⟨_,_,rfl,h,fun e=>absurd e b⟩
theorem RS (s:ByteArray) (qa:Nat) (c:Ac) (ga:Int) (BA:List BK) (z:List EN) (w:World) (hs:s.size<=1099511627776) (hA:Bz w qa c ga BA z) (cb:Dh c ga BA z) (cc:∀x∈z,Af x.2.1/\Af x.2.2) (cd:z.length<=65535):
  Calls Tryz.prog 59 #[.string s,.pointer (some ⟨qa,0,none⟩)] w (D5 w):=by
 obtain ⟨i0,hi,bo,bp,bq⟩:=info_parts Tryz.infoEN;have HA:=jp hA;have ce:=jp cb;have an:=jp cc;clear hA cb cc;go_enter Tryz.func59,Tryz.ntmps59;go_wp2_with fail;refine (KD s _ hs).mono ?_;rintro e w1 ⟨a,ok,rfl,ap,ha, -⟩;cases ok
 .go_wp2;go_ret2;exact D5.no ap _ ji
 .go_upto_region 5 with fail
  have cf:Aq (w1.alloc (.cells #[.string a,.bool false] 128)) w1.heap.size a false:=⟨js,js,js,js⟩;have cg:Aa w (w1.alloc (.cells #[.string a,.bool false] 128)):=ap.step_alloc _;have A:w.heap.size<=w1.heap.size:=ap.size;have a0:w1.heap.size<(w1.alloc (.cells #[.string a,.bool false] 128)).heap.size:=js
  generalize w1.heap.size=P at *;generalize w1.alloc (.cells #[.string a,.bool false] 128)=W0 at *;clear ap;go_wp2_with fail;refine (Jr P 2 a false _ ji ji (by unfold maxLen;omega) cf).mono ?_;rintro e W1 ⟨v1,s1,d9,rfl,br,ch,h,rfl,g1, -, -, -⟩;have ci:=br.bel cg A;go_wp2_with fail;refine (C7 P 4 s1 d9 _ ji ji (by unfold maxLen;omega) ch).mono ?_;rintro e W2 ⟨v2,s2,fa,rfl,bs,cj,ck,rfl,g2, -, -, -⟩;have cl:=bs.bel ci A;go_wp2_with fail;refine (C7 P 4 s2 fa _ ji ji (by unfold maxLen;omega) cj).mono ?_;rintro e W3 ⟨v3,s3,fb,rfl,bt,cm,fc,rfl,g3, -, -, -⟩;have aq:=bt.bel cl A;have bu:P<W3.heap.size:=jN a0 (jX br.size (jX bs.size bt.size));clear br bs bt cf ch cj cg ci cl a0;obtain ⟨fd,cn,⟨m0,m1,m2,m3,m4,m5⟩, -⟩:=HA.out.later aq;go_upto_region 9 with fail
  have co:BR (W3.alloc (.cells #[.int .i64 c.alg,.int .i64 c.slots,.int .i64 c.points,.int .i64 c.probes,.string c.key,.int .i64 c.formats,.int .i64 0,.slice none 0 0,.slice none 0 0] 85)) W3.heap.size [.int .i64 c.alg,.int .i64 c.slots,.int .i64 c.points,.int .i64 c.probes,.string c.key,.int .i64 c.formats,.int .i64 0,.slice none 0 0,.slice none 0 0]:=BR.alloc _ _ _;have cp:=cm.later (Aa.step_alloc (jD _) (.cells #[.int .i64 c.alg,.int .i64 c.slots,.int .i64 c.points,.int .i64 c.probes,.string c.key,.int .i64 c.formats,.int .i64 0,.slice none 0 0,.slice none 0 0] 85));have ar:w.heap.size<=W3.heap.size:=aq.size;have a5:W3.heap.size<(W3.alloc (.cells #[.int .i64 c.alg,.int .i64 c.slots,.int .i64 c.points,.int .i64 c.probes,.string c.key,.int .i64 c.formats,.int .i64 0,.slice none 0 0,.slice none 0 0] 85)).heap.size:=js
  have cq:=aq.step_alloc (.cells #[.int .i64 c.alg,.int .i64 c.slots,.int .i64 c.points,.int .i64 c.probes,.string c.key,.int .i64 c.formats,.int .i64 0,.slice none 0 0,.slice none 0 0] 85);have I:W3.heap.size≠P:=jo
  clear cm aq m0 m1 m2 m3 m4 m5;generalize W3.heap.size=l at *;generalize W3.alloc (.cells #[.int .i64 c.alg,.int .i64 c.slots,.int .i64 c.points,.int .i64 c.probes,.string c.key,.int .i64 c.formats,.int .i64 0,.slice none 0 0,.slice none 0 0] 85)=X0 at *;go_wp2_with fail;refine (C7 P 4 s3 fb _ ji ji (by unfold maxLen;omega) cp).mono ?_;rintro e X1 ⟨v,r1,q1,rfl,o,cr,D,rfl,z1,gj,ac, -⟩;have gk:D<4294967296:=by simpa using ac
  clear ac;have au:=co.but o I;have hc:=(au 6 _ rfl).1;have hf:=(au 6 _ rfl).2;have cs:=o.bel cq A;have ba:l<X1.heap.size:=jN a5 o.size;clear co cp cq o a5 bu;have hX:BR (X1.setCell ⟨l,6,none⟩ (.int .i64 D)) l [.int .i64 c.alg,.int .i64 c.slots,.int .i64 c.points,.int .i64 c.probes,.string c.key,.int .i64 c.formats,.int .i64 D,.slice none 0 0,.slice none 0 0]:=au.set 6 _;have hT:Aq (X1.setCell ⟨l,6,none⟩ (.int .i64 D)) P r1 q1:=cr.other I;have hW:Aa w (X1.setCell ⟨l,6,none⟩ (.int .i64 D)):=cs.step_set (p:=⟨l,6,none⟩) ar _;have ct:l<(X1.setCell ⟨l,6,none⟩ (.int .i64 D)).heap.size:=by simpa using ba
  go_upto_region 10 with fail
  clear au cr cs ba hc hf;generalize X1.setCell ⟨l,6,none⟩ (.int .i64 D)=Y1 at *;have bb:P<Y1.heap.size:=World.block_lt_of_cell? _ _ hT.1;go_wp2_with fail;refine (OB P r1 q1 _ (by unfold maxLen;omega) hT bb).mono ?_;rintro e Z1 ⟨vB,L,fe,s7,ff,rfl,o,cu,gp,bv,fg,ad,bc⟩;have ae:=hX.but o I;have cw:=o.bel hW A;have af:∀g,vB.ownBlock=some g->g≠P:=fun g Q=>by have:=ad g Q;omega
  have fh:Hid (∀g,vB.ownBlock=some g->w.heap.size<=g):=fun g Q=>jX hW.size (ad g Q)
  have cx:l<Z1.heap.size:=jN ct o.size;have fi:=(ae 7 _ rfl).1;have fj:=(ae 7 _ rfl).2;clear hX hT hW o ad ct bb;have F:BR (Z1.setCell ⟨l,7,none⟩ vB) l [.int .i64 c.alg,.int .i64 c.slots,.int .i64 c.points,.int .i64 c.probes,.string c.key,.int .i64 c.formats,.int .i64 D,vB,.slice none 0 0]:=ae.set 7 _;have B:Aq (Z1.setCell ⟨l,7,none⟩ vB) P s7 ff:=cu.other I;have q:Aa w (Z1.setCell ⟨l,7,none⟩ vB):=cw.step_set (p:=⟨l,7,none⟩) ar _;have G:l<(Z1.setCell ⟨l,7,none⟩ vB).heap.size:=by simpa using cx
  have f:Am (Z1.setCell ⟨l,7,none⟩ vB) vB L:=bv.set_x (ae 0 _ rfl).1
  obtain ⟨cy,bd,fk⟩:∃ao cap,vB= .slice ao L.length cap:=by
   obtain ⟨ao,cap,hv,_⟩:=bv.open;exact ⟨ao,cap,hv⟩
  subst fk;go_upto_region 12 with fail
  clear ae cu cw cx fi fj bv;generalize Z1.setCell ⟨l,7,none⟩ (.slice cy L.length bd)=Z2 at *;cases fe
  .go_wp2;go_ret2;exact D5.no q _ ji
  obtain ⟨rfl,cz⟩:=bc rfl;have c0:=jp cz;clear bc cz;go_wp2_with fail;refine (C7 P 2 s7 false _ ji ji (by unfold maxLen;omega) B).mono ?_;rintro e V1 ⟨v,r2,q2,rfl,o,J,nn,rfl,gq,c6,c7, -⟩;have fl:nn<65536:=by simpa using c7
  clear c7;replace F:=F.but o I;replace f:=f.but o af;replace q:=o.bel q A;replace G:l<V1.heap.size:=jN G o.size;clear B o;have B:=J;clear J;go_wp2_with fail;refine (C7 P 2 r2 q2 _ ji ji (by unfold maxLen;omega) B).mono ?_;rintro e V2 ⟨v,r3,q3,rfl,o,J,mm,rfl,gr,c9,da, -⟩;have fm:mm<65536:=by simpa using da
  clear da;replace F:=F.but o I;replace f:=f.but o af;replace q:=o.bel q A;replace G:l<V2.heap.size:=jN G o.size;clear B o;have B:=J;clear J;go_wp2_with fail;refine (C7 P 2 r3 q3 _ ji ji (by unfold maxLen;omega) B).mono ?_;rintro e V3 ⟨v,r4,q4,rfl,o,J,kk,rfl,gs,db,dc, -⟩;have fn:kk<65536:=by simpa using dc
  clear dc;replace F:=F.but o I;replace f:=f.but o af;replace q:=o.bel q A;replace G:l<V3.heap.size:=jN G o.size;clear B o;have B:=J;clear J;obtain ⟨n,rfl⟩:=jM c6;obtain ⟨m,rfl⟩:=jM c9;obtain ⟨k,rfl⟩:=jM db;have n3:n<=65535:=jo
  have m3:m<=65535:=jo
  have k3:k<=65535:=jo
  clear c6 fl c9 fm db fn;have be:=Jq qa c ga BA z V3 (HA.out.later q);go_wp2_with fail;refine be.mono ?_;rintro e V4 ⟨pb,rfl,Z,dd⟩;have gt:=jp dd;replace F:=F.later Z;replace f:=f.later Z;replace B:=B.later Z;replace q:=q.trans Z;replace G:l<V4.heap.size:=jN G Z.size;clear be dd Z;obtain ⟨t0,t1, -, -⟩:=id B;cases q4
  rotate_left
  .go_wp2;go_ret2;exact D5.no q _ ji
  cases fo:(h.toList==[67,80])
  .go_wp2;go_ret2;exact D5.no q _ ji
  have bf:P<V4.heap.size:=jF t0;go_upto_if 87 with fail
  go_cut [19] (fun u wc=>V4=wc/\∃sz:Nat,sz<=9/\u= .int .i64 (sz:Int))
  case first=>
   cases pb
   .go_wp2_with fail;go_meet
    case rel=>exact ⟨rfl,2,ji,rfl⟩
   .go_wp2_with fail;go_meet
    case rel=>exact ⟨rfl,9,ji,rfl⟩
  case rest=>
   obtain ⟨rfl,sz,fp,rfl⟩:=hcut;have gu:r4.size<=1099511627776:=jo
   have fq:wrap64 ((k:Int) * (sz:Int))=((k * sz:Nat):Int):=by
    have:k * sz<=65535 * 9:=Nat.mul_le_mul k3 fp;rw [<-Int.natCast_mul];unfold wrap64;omega
   by_cases fr:r4.size=k * sz
   rotate_left
   .have de:((r4.size:Int) !=((k * sz:Nat):Int))=true:=by rw [bne_iff_ne];omega
    generalize k * sz=ks at *;go_wp2;go_ret2;exact D5.no q _ ji
   have de:((r4.size:Int) !=((k * sz:Nat):Int))=false:=by rw [jc];omega
   clear fr;generalize k * sz=ks at *;go_wp2_with fail;refine (OJ P k pb _ L r4 false _ (by unfold maxLen;omega) B bf k3 f fg af).mono ?_;rintro e V5 ⟨vE,E2,fs,s9,gv,rfl,o, -, -,bw,gl,ag⟩;have df:=F.but o I;have bg:=f.but o af;have bx:=o.bel q A;have gw:Hid (∀g,vE.ownBlock=some g->w.heap.size<=g):=fun g Q=>jX q.size (bw.2 g Q)
   have hE:=bw.1;have HG:=jp ag;clear F f q B bf G t0 t1 o bw ag fq de fo;have bh:=Fw qa c ga BA z 1 V5 (HA.out.later bx) ce.out ⟨ji,ji⟩ (fun x hx=>⟨(an.out x hx).1.i64,(an.out x hx).2.i64⟩);go_wp2_with fail;refine bh.mono ?_;rintro e V6 ⟨im,rfl,dg,dh,di⟩;clear bh;have dj:=fun wx=>L2 (im.extract 0 (im.size - 4)) wx (by unfold maxLen;simp;omega)
   go_wp2_with fail;refine (dj _).mono ?_;rintro e V7 ⟨d,rfl,dk, -, -⟩;have K:=dg.trans dk;have dl:=df.later K;have bi:=bg.later K;have bz:=hE.later K;have M:=bx.trans K;obtain ⟨fd,cn,⟨m0,m1,m2,ft,m4,m5⟩,m6,m7,m8, -,N⟩:=HA.out.later M;clear df bg hE bx dg dk K dj dh di
   obtain ⟨av,T,rfl,fu⟩:∃ao cap,cn= .slice ao z.length cap/\z.length<=cap:=by
    rcases N.form with ⟨rfl,rfl⟩|⟨g,cap,rfl,hc,_⟩
    .exact ⟨none,0,rfl,js⟩
    .exact ⟨_,cap,rfl,hc⟩
   have fv:Hid (z.length<=65535):=cd
   obtain ⟨gx,gm,rfl⟩:∃ao cap,vE= .slice ao E2.length cap:=by
    rcases bz.form with ⟨rfl,rfl⟩|⟨g,cap,rfl,_⟩
    .exact ⟨none,0,rfl⟩
    .exact ⟨_,cap,rfl⟩
   cases eg:(ck !=ga)
   rotate_left
   .go_wp2;go_ret2;exact D5.no M _ ji
   cases ed:(fc !=d)
   rotate_left
   .go_wp2;go_ret2;exact D5.no M _ ji
   cases fs
   .go_wp2;go_ret2;exact D5.no M _ ji
   by_cases b1:z.length<n+m
   .have bj:decide ((n:Int)+(m:Int)>(z.length:Int))=true:=jL jo;clear b1;go_wp2;go_ret2;exact D5.no M _ ji
   have bj:decide ((n:Int)+(m:Int)>(z.length:Int))=false:=jK jo;have b2:=jp b1;go_upto_region 34 with fail
   clear eg ed b1 bj;have fw:n<=z.length:=by have:=b2.out;omega
   have gy:m<=z.length:=by have:=b2.out;omega
   have gz:=fv.out;have b3:=fun wx=>PL wx av z.length T n jo
   go_wp2_with (first|(at_builtin;refine Fn _ rfl _ _ 83 rfl V7.heap.size 146 i0 (.agg #[.string ByteArray.empty,.int .i64 0,.int .i64 0]) 3 32 Tryz.underlying83 hi bo bp bq rfl ji _ 0 [] rfl ?o1 _ n (Av (z.take n)) rfl ?o2 ?c1 ?c2 ?c3 ?c4 ?c5 ?_))
   case o1=>exact World.ownsRow_nil _ _ _ _
   case o2=>exact MD N fw
   case c1=>rw [Iv];simp;omega
   case c2=>exact Ja _
   case c3=>unfold maxLen;omega
   case c4=>omega
   case c5=>exact jH _
   intro v8 V8 ah U;have aa:Aa V7 V8:=(jD _).grown U (fun g Q=>by cases Q);have V:V8.ownsRow V7.heap.size 146 3 v8 n (Av (z.take n)):=by simpa using ah
   have b4:=jp V;have n8:=aa.cell m8;have bk:=bz.later aa;have dm:=N.later aa;have fx:=aa.size;have dn:=jp N;clear ah V U b3 m0 m1 m2 ft m4 m5 m6 m7 bz N;go_wp2_with (first|(at_builtin;refine Fn _ rfl _ _ 83 rfl V7.heap.size 146 i0 (.agg #[.string ByteArray.empty,.int .i64 0,.int .i64 0]) 3 32 Tryz.underlying83 hi bo bp bq rfl ji v8 n (Av (z.take n)) rfl b4.out _ E2.length (Av (E2.take E2.length)) rfl ?o2 ?c1 ?c2 ?c3 ?c4 ?c5 ?_))
   case o2=>exact MD bk (jH _)
   case c1=>rw [Iv];simp
   case c2=>exact Ja _
   case c3=>unfold maxLen;omega
   case c4=>omega
   case c5=>exact fx
   intro v9 V9 ai W;have aj:Aa V7 V9:=aa.grown W (fun g Q=>(World.ownsRow.lt b4.out g Q).1);have aw:=jp ai;clear ai W n8 bk dm aa;obtain ⟨em,b5⟩:∃em:Nat,em=z.length - m:=⟨_,rfl⟩;have fy:IntKind.i64.wrap ((z.length:Int) - (m:Int))=(em:Int):=by rw [IntKind.wrap_i64,b5];omega
   have bl:em<=z.length:=jo
   have fz:=jp b5;have f0:=fun wx=>PE wx av z.length T em bl
   have g0:=aj.size;clear b5;generalize dp:GY av z.length T em=cv at *;have dq:=jp dp;clear dp;have gn:qa<V9.heap.size:=World.block_lt_of_cell? _ _ (aj.cell m8);go_upto_region 36 with fail
   go_region_held_law (fun w'=>Aa V7 w'/\w'.cell? ⟨qa,8,none⟩=some (.slice av z.length T)) ((exact ⟨jq,Aa.cell (a:=V7) jq m8⟩))
    ((refine Tf rfl (.tmp 144) (.tmp 156) 83 rfl V7.heap.size 146 i0 (.agg #[.string ByteArray.empty, .int .i64 0, .int .i64 0]) 3 32 Tryz.underlying83 hi bo bp bq rfl ji v9 (n + E2.length) (Av (z.take n) ++ Av E2) (by simp [Act.eval]) (I6 aw.out (by solve_by_elim [jA, jB, jC, jD, jE])) cv (z.length - em) (Av (z.drop em)) (by simp [Act.eval]) (dq.out ▸ Nh (Cl.later dn.out (by solve_by_elim [jA, jB, jC, jD, jE])) bl) (by rw [Iv, jh]) (Ja _) (by unfold maxLen; omega) jo (by simp; omega) ?_
      intro f1 ax X E
      have Y : Aa V7 ax := by
        first
        | exact aj.grown E (fun g Q => (World.ownsRow.lt aw.out g Q).1)
        | exact (aj.step_drew).grown E (fun g Q => (World.ownsRow.lt aw.out g Q).1)
      have dr := jp X
      clear X E))
   all_goals
    obtain ⟨i,ay⟩:∃i,i=z.take n++E2++z.drop em:=⟨_,rfl⟩;have bm:i.length=n+E2.length+(z.length - em):=by rw [ay];simp;omega
    have ds:Hid (ax.ownsRow V7.heap.size 146 3 f1 i.length (Av i)):=by
     have h1:=dr.out;show ax.ownsRow _ _ _ _ _ _;rw [bm,ay,Kc,Kc];simpa using h1
    have f2:Hid (∀x∈i,Af x.2.1/\Af x.2.2):=by
     intro x hx;rw [ay] at hx;rcases jT.1 hx with h|h
     .rcases jT.1 h with h|h
      .exact an.out x (List.mem_of_mem_take h)
      .exact (HG.out x h).2
     .exact an.out x (List.mem_of_mem_drop h)
    have dt:i.length<=140000:=by have:=b2.out;have:=fz.out;omega
    obtain ⟨O,C,rfl, -,ak⟩:=Pj ds.out;have R:=bi.later Y;have bn:=dl.later Y;have al:=M.trans Y;have du:Hid (∀g,(Value.slice O i.length C).ownBlock=some g->w.heap.size<=g):=fun g Q=>jX M.size (World.ownsRow.lt ds.out g Q).1
    clear dr ay bm bi dl M aj Y fy f0 m8 dn dq b4 aw;go_wp2;go_loopg [25] i.length (fun r vq wr=>Aa ax wr/\∃t:Nat,t<=i.length/\r=i.length - t/\vq= .int .i64 t/\∀j (h:j<i.length),j<t->∃b∈L,b.1=i[j].1)
    case atStart=>exact ⟨jD _,0,jo,jo,rfl,fun j _ h=>by omega⟩
    case round=>
     obtain ⟨H,t,ht,g4,rfl,dv⟩:=hrel;have dw:=jp dv;clear dv;by_cases b6:t<i.length
     .have f3:decide ((t:Int)<(i.length:Int))=true:=jL jo;rcases ak.form with ⟨-,am⟩|⟨g3,go,hv, -, -,dx⟩
      .rw [am] at b6;simp at b6
      simp only [Value.slice.injEq,true_and] at hv;obtain ⟨rfl,rfl⟩:=hv;have e0:=H.cell (dx t b6).1
      have f4:Hid ((∃y∈L,y.1=i[t].1)->∀j (h:j<i.length),j<t+1->∃b∈L,b.1=i[j].1):=fun hy j h1 h2=>by
       by_cases hj:j=t
       .subst hj;exact hy
       .exact dw.out j h1 jo
      clear dx;generalize i[t].1=ab at *;go_wp2;generalize wr=wo at *;go_loopg [26,27] L.length (fun r vi vo wx=>Aa wo wx/\∃(u:Nat) (b:Bool),u<=L.length/\r=L.length - u/\vo= .int .i64 u/\vi= .bool b/\(b=true->∃y∈L,y.1=ab))
      case atStart=>exact ⟨jD _,0,false,jo,jo,rfl,rfl,fun h=>by cases h⟩
      case round=>
       obtain ⟨S,u,b,o,g5,rfl,rfl,dy⟩:=hrel;have dz:=jp dy;clear dy;by_cases az:u<L.length
       .have f5:decide ((u:Int)<(L.length:Int))=true:=jL jo;have g6:=S.cell e0;cases b
        .rcases R.form with ⟨-,am⟩|⟨gB,f6,hv, -, -,d0⟩
         .rw [am] at az;simp at az
         simp only [Value.slice.injEq,true_and] at hv;obtain ⟨rfl,rfl⟩:=hv;have b0:=S.cell (H.cell (d0 u az).1);have f7:Hid ((L[u].1.toList==ab.toList)=true↔L[u].1=ab):=FE;have HM:Hid (L[u].1=ab->∃y∈L,y.1=ab):=fun e=>⟨L[u],jJ az,e⟩
         clear d0;generalize L[u].1=lu at *;cases f9:(lu.toList==ab.toList)
         .go_wp2_with fail;go_quiet (fail);go_wp2;go_roundg (L.length - (u+1))
          case measure=>omega
          case rel=>exact ⟨S.trans jq,u+1,false,jo,rfl,by go_num,rfl,fun h=>by cases h⟩
         .have HY:=jp (HM.out (f7.out.1 f9));go_wp2_with fail;go_quiet (fail);go_wp2;go_roundg (L.length - (u+1))
          case measure=>omega
          case rel=>exact ⟨S.trans jq,u+1,true,jo,rfl,by go_num,rfl,fun _=>HY.out⟩
        .go_wp2_with fail;go_quiet (fail);go_wp2;go_roundg (L.length - (u+1))
         case measure=>omega
         case rel=>exact ⟨S.trans jq,u+1,true,jo,rfl,by go_num,rfl,fun _=>dz.out js⟩
       .have f5:decide ((u:Int)<(L.length:Int))=false:=jK jo;have gb:=al.trans (H.trans S);cases b
        .go_wp2;go_ret2;exact D5.no gb _ ji
        .have gc:=H.trans S;go_wp2;go_roundg (i.length - (t+1))
         case measure=>omega
         case rel=>exact ⟨gc,t+1,jo,rfl,by go_num,f4.out (dz.out js)⟩
     .have f3:decide ((t:Int)<(i.length:Int))=false:=jK jo
      have d1:Hid (∀x∈i,∃b∈L,b.1=x.1):=fun x hx=>by
       obtain ⟨j,hj,rfl⟩:=List.mem_iff_getElem.1 hx;exact dw.out j hj jo
      have hX:=bn.later H;have c8:=(hX 8 _ rfl).1;have f8:=(hX 8 _ rfl).2;have b7:=hX.set 8 (.slice O i.length C);have b8:Am (wr.setCell ⟨l,8,none⟩ (.slice O i.length C)) (.slice cy L.length bd) L:=(R.later H).set_x (hX 0 _ rfl).1;have b9:Cl (wr.setCell ⟨l,8,none⟩ (.slice O i.length C)) (.slice O i.length C) i:=(ak.later H).set_x (hX 0 _ rfl).1;have d2:Bz (wr.setCell ⟨l,8,none⟩ (.slice O i.length C)) l c D L i:=Bz.of_blk b7 b8 b9;have d3:Hid (CL w.heap.size (wr.setCell ⟨l,8,none⟩ (.slice O i.length C)) l c D L i):=CL.of_blk b7 b8 b9 ar fh.out du.out;have gd:Aa w (wr.setCell ⟨l,8,none⟩ (.slice O i.length C)):=(al.trans H).step_set (p:=⟨l,8,none⟩) ar _
      have d4:c.Fit:=by
       obtain ⟨a1,a2,a3,a4, -,a6,a7,a8,a9,ge,g7,g8⟩:=ce.out.1;exact ⟨⟨jo,jo⟩,⟨jo,jo⟩,⟨jo,jo⟩,⟨jo,jo⟩,⟨jo,jo⟩,by rw [ge];unfold maxLen;omega⟩
      have d5:=NJ l c D L i _ d2 d4 c0.out dt;clear hX b7 b8 b9 d2 bn R ak al H;go_wp2_with fail;refine d5.mono ?_;rintro e W9 ⟨gf,rfl,d6,d7⟩;have d8:=gd.trans d6;have gg:=jp (d3.out.later d6);clear d5;cases gf
      .go_wp2;go_ret2;exact D5.no d8 _ ji
      .have gh:=jp (d7 rfl);clear d7;go_wp2;go_ret2;obtain ⟨gi,g9,hb,b3⟩:=gh.out;exact ⟨_,_,rfl,d8,fun _=>⟨l,c,D,L,i,rfl,gg.out,⟨gi,⟨jo,jo⟩,c0.out,dt,d1.out,b3⟩,f2.out⟩⟩
end Go.Proofs.YtpapdkhjdelfcaaGreat
