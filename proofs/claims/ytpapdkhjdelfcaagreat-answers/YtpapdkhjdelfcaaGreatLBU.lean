import Derived.Test.YtpapdkhjdelfcaaGreatLBM
import Derived.Test.YtpapdkhjdelfcaaGreatLBT
import Derived.Deep.QuietTactic
import Derived.BigQuiet
namespace Go.Proofs.YtpapdkhjdelfcaaGreat
open Go.RowKit
set_option maxRecDepth 100000
set_option maxHeartbeats 4000000
theorem Tryz.uC:Tryz.prog.underlying 30=some (.struct (Tryz.prog.fieldsOf 30)):=by kernel_rfl
theorem Tryz.sC:Tryz.prog.stoodInHeld 30=false:=by kernel_rfl
def Ll (c d:Ac):Bool:=!(c.alg==d.alg && (c.slots==d.slots && (c.points==d.points && (c.probes==d.probes && (c.key.toList==d.key.toList && c.formats==d.formats)))))
theorem UQ (c d:Ac) (w:World):(binOp .neq 30 (.agg #[.int .i64 c.alg,.int .i64 c.slots,.int .i64 c.points,.int .i64 c.probes,.string c.key,.int .i64 c.formats]) (.agg #[.int .i64 d.alg,.int .i64 d.slots,.int .i64 d.points,.int .i64 d.probes,.string d.key,.int .i64 d.formats])).run Tryz.prog w= .ok (.bool (Ll c d)) w:=by
 rw [run_neq_struct,run_equalIn_struct w 9999 _ _ _ Tryz.uC Tryz.sC];unfold Ll;simp [go_sem];by_cases a:c.alg=d.alg <;>by_cases b:c.slots=d.slots <;>by_cases f:c.points=d.points <;>by_cases g:c.probes=d.probes <;>by_cases i:c.key.toList=d.key.toList <;>by_cases k:c.formats=d.formats <;>simp [a,b,f,g,i,k]
def IP (v:Value) (w:World):Prop:=∃(p:Nat) (c:Ac) (a:Int) (B:List BK) (E:List EN),v= .pointer (some ⟨p,0,none⟩)/\Bz w p c a B E/\Dh c a B E/\(∀x∈E,Af x.2.1/\Af x.2.2)/\E.length<=65535
theorem IP.later {v:Value} {w w':World} (h:IP v w) (b:Aa w w'):IP v w':=by
 obtain ⟨p,c,a,B,E,d,f,r⟩:=h;exact ⟨p,c,a,B,E,d,f.later b,r⟩
def U5 (w:World) (e:Ending) (w':World):Prop:=∃(v:Value) (f:Int) (a:Bool),e= .returned (.tuple #[v,.int .i64 f,.bool a])/\Aa w w'/\(a=true->IP v w')
theorem NM (s:ByteArray) (w:World) (b:s.size<=1099511627776):Calls Tryz.prog 53 #[.string s] w (U5 w):=by
 refine (L7 s w b).mono ?_;rintro e w' ⟨v,f,d,rfl,g,h⟩;refine ⟨v,f,d,rfl,g,fun i=>?_⟩;obtain ⟨p,c,a,B,E,k, -,l,m,n, -, -, -,o⟩:=h i;exact ⟨p,c,a,B,E,k,l.state,m,n,o⟩
theorem Zj (G:Aw) (s:Nat) (x:WG) (A B C:Int) (S:ByteArray) (w:World) (h:Ao G s x w) (Z:s<=150000) (hA:Aj A) (hB:Aj B):
  Calls Tryz.prog 33 #[.pointer (some ⟨x.p,0,none⟩),AB 22 A B C S] w (Cc G x.p (s+1)):=by
 have H:=fun d (b:Aa w d)=>FI G s x A d (h.later b) Z hA
 have I:=fun d (b:Aa w d)=>FI G s x B d (h.later b) Z hB
 have l:Hid (∀d (b:Bool),Aa w d->Cc G x.p (s+1) (.returned (.bool b)) d):=fun d b hb=>⟨b,rfl,x,(h.later hb).up jo,rfl⟩
 generalize x.p=p at *;clear h;unfold AB;go_enter Tryz.func33,Tryz.ntmps33;go_wp2_with fail;obtain ⟨wo,J,r,T,o1,U,o3,o4⟩:=BV w (.int .i64 22) (.int .i64 A) (.int .i64 B) (.int .i64 C) (.string S) 28;rw [J];clear J;generalize w.heap.size=po at T o1 U o3 o4 |-;refine (H _ r).mono ?_;rintro e w1 ⟨a,rfl,g,K⟩;have q2:=g.cell U;have q0:=g.cell T;have f:=r.trans g;clear H T o1 U o3 o4 g r;go_wp2_with fail;refine (I _ f).mono ?_;rintro e w2 ⟨b,rfl,t,V⟩;have r0:=t.cell q0;have m:=f.trans t;clear I q0 q2 t f;go_wp2_with fail;refine (NM a w2 K).mono ?_;rintro e w3 ⟨vx,fx,u,rfl,v,L⟩;have r1:=v.cell r0;have n:=m.trans v;clear r0 v m;go_wp2_with fail;refine (NM b w3 V).mono ?_;rintro e w4 ⟨vy,fy,ab,rfl,i,hy⟩;have r2:=i.cell r1;have o:=n.trans i;have M:u=true->IP vx w4:=fun e=>(L e).later i
 clear r1 n L hy i;go_wp2_with fail;refine (Ti a _ K).mono ?_;rintro e W ⟨s5,t5,g5,n5,rfl,k⟩;have r3:=k.cell r2;have N:=o.trans k;have y:u=true->IP vx W:=fun e=>(M e).later k
 clear r2 o M k;cases u
 .clear y;go_wp2
  all_goals
   go_ret;exact l.out _ _ jq
 .obtain ⟨pp,c,O,Bx,E,rfl,z,D,X, -⟩:=y rfl;have Y:∀x∈E,Aj x.2.1/\Aj x.2.2:=fun x L=>⟨(X x L).1.toI64,(X x L).2.toI64⟩
  have P:=fun d (b:Aa W d)=>Fw pp c O Bx E 1 d (z.later b) D ⟨ji,ji⟩ Y
  have Q:=fun d (b:Aa W d)=>Fw pp c O Bx E 2 d (z.later b) D ⟨ji,ji⟩ Y
  obtain ⟨vB,vE, -,s6, -⟩:=z;clear y X Y D;go_wp2_with fail;refine (P _ (jD _)).mono ?_;rintro e w6 ⟨m1,rfl,F, -⟩;go_wp2_with fail;refine (Q _ F).mono ?_;rintro e w7 ⟨m2,rfl,R, -⟩;have q:=F.trans R;have t6:=q.cell s6;have aa:=N.trans q;clear P Q F R s6;go_wp2
  all_goals
   go_ret;exact l.out _ _ jq
def DM (base:Nat) (v:Value) (w:World):Prop:=∃(p:Nat) (c:Ac) (a:Int) (B:List BK) (E:List EN),v= .pointer (some ⟨p,0,none⟩)/\CL base w p c a B E/\Dh c a B E/\(∀x∈E,Af x.2.1/\Af x.2.2)/\E.length<=65535
theorem DM.later {base:Nat} {v:Value} {w w':World} (h:DM base v w) (b:Aa w w'):DM base v w':=by
 obtain ⟨p,c,a,B,E,d,f,r⟩:=h;exact ⟨p,c,a,B,E,d,f.later b,r⟩
theorem CL.from {base base':Nat} {w:World} {p:Nat} {c:Ac} {a:Int} {B:List BK} {E:List EN} (h:CL base w p c a B E) (b:base'<=base):CL base' w p c a B E:=by
 obtain ⟨f,i,k,l,m,n⟩:=h;exact ⟨f,i,k,jX b l,fun g d=>jX b (m g d),fun g d=>jX b (n g d)⟩
theorem DM.from {base base':Nat} {v:Value} {w:World} (h:DM base v w) (b:base'<=base):DM base' v w:=by
 obtain ⟨p,c,a,B,E,d,f,r⟩:=h;exact ⟨p,c,a,B,E,d,f.from b,r⟩
def YH (w:World) (e:Ending) (w':World):Prop:=∃(v:Value) (f:Int) (a:Bool),e= .returned (.tuple #[v,.int .i64 f,.bool a])/\Aa w w'/\(a=true->DM w.heap.size v w')
theorem KA (s:ByteArray) (w:World) (b:s.size<=1099511627776):Calls Tryz.prog 53 #[.string s] w (YH w):=by
 refine (L7 s w b).mono ?_;rintro e w' ⟨v,f,d,rfl,g,h⟩;refine ⟨v,f,d,rfl,g,fun i=>?_⟩;obtain ⟨p,c,a,B,E,k, -,l,m,n, -, -, -,o⟩:=h i;exact ⟨p,c,a,B,E,k,l,m,n,o⟩
def L6 (base:Nat) (w w':World):Prop:=∃M,Ab M w w'/\∀j∈M,j<base
theorem CL.kept {base:Nat} {w w':World} {p:Nat} {c:Ac} {f:Int} {B:List BK} {E:List EN} (h:CL base w p c f B E) (k:L6 base w w'):CL base w' p c f B E:=by
 obtain ⟨M,a,q⟩:=k;have b:∀j,base<=j->j∉M:=fun j G e=>by have:=q j e;omega
 obtain ⟨r,s,⟨⟨t,u,v,x,y,z⟩,A,C,D,F,i⟩,m,n,o⟩:=h;have d:=b p m;exact ⟨r,s,⟨⟨a.cell t d,a.cell u d,a.cell v d,a.cell x d,a.cell y d,a.cell z d⟩,a.cell A d,a.cell C d,a.cell D d,Ap.but F a (fun g l=>b g (n g l)),Ap.but i a (fun g l=>b g (o g l))⟩,m,n,o⟩
def QM (b:Aw) (s p base:Nat) (w:World) (e:Ending) (w':World):Prop:=e= .returned (.tuple #[])/\(∃a,Ao b s a w'/\a.p=p)/\L6 base w w'
theorem No (c:Aw) (s:Nat) (x:WG) (S:ByteArray) (w d:World) (h:Ao c s x d) (b:Aa d w) (r:s<=150000) (n:S.size<=1099511627776):
  Calls Tryz.prog 41 #[.pointer (some ⟨x.p,0,none⟩),.string S] w (QM c (s+1) x.p d.heap.size w):=by
 have l:=h;have h:=h.later b
 have f:x.vh.ownBlock≠some x.p:=fun e=>by
  have t:1<=x.vh.ownBlock.toList.count x.p:=Ak.1 (by simp [e]);have u:=WG.count x x.p;have v:=DK h.2.2.1 x.p;have y:=GS x.p;omega
 refine (Lq c.heap.size x.p x.H.length x.vh (x.H.map Value.string) S w (h.1.1 7 _ rfl) (h.1.2 7 (by simp [WG.cells])) h.2.2.2.2.2.2.2.1 (by have:=h.2.2.2.2.2.2.2.2.2.2.2.1.2.1;omega) h.2.1.size f).mono ?_;rintro e w' ⟨rfl,g,cap,z,m,rfl,a,o⟩;refine ⟨rfl,⟨_,h.put m a o n,rfl⟩,x.p::x.vh.ownBlock.toList,(m.mono (fun k q=>Or.inl (jW _ q))).put (Or.inl js) _,fun j i=>?_⟩
 have:j∈x.blocks:=by
  rcases ja.1 i with rfl|i
  .simp [WG.blocks]
  .exact Ak.2 (by have:=WG.count x j;have:=Ak.1 i;omega)
 exact (l.2.2.2.2.1 j (l.2.2.2.1 j this)).2
theorem Ta (y:Aw) (s:Nat) (x:WG) (A B C:Int) (S:ByteArray) (w:World) (h:Ao y s x w) (Y:s<=150000) (hA:Aj A) (hB:Aj B):
  Calls Tryz.prog 33 #[.pointer (some ⟨x.p,0,none⟩),AB 23 A B C S] w (Cc y x.p (s+1)):=by
 have L:=fun c (b:Aa w c)=>FI y s x A c (h.later b) Y hA
 have N:=fun c (b:Aa w c)=>FI y s x B c (h.later b) Y hB
 have d:=fun (t:ByteArray) (ht:t.size<=16777216) c (b:Aa w c)=>No y s x t c w h b Y jo
 have f:Hid (∀c (b:Bool),Aa w c->Cc y x.p (s+1) (.returned (.bool b)) c):=fun c b O=>⟨b,rfl,x,(h.later O).up jo,rfl⟩
 generalize x.p=p at *;clear h;have Z:∀c,Aa w c->w.heap.size<=c.heap.size:=fun c b=>b.size
 unfold AB;go_enter Tryz.func33,Tryz.ntmps33;go_wp2_with fail;obtain ⟨wo,P,z,o0,o1,o2,o3,o4⟩:=BV w (.int .i64 23) (.int .i64 A) (.int .i64 B) (.int .i64 C) (.string S) 28;rw [P];clear P;generalize aa:w.heap.size=po at o0 o1 o2 o3 o4 |-;clear aa;refine (L _ z).mono ?_;rintro e w1 ⟨a,rfl,o,Q⟩;have q2:=o.cell o2;have q0:=o.cell o0;have g:=z.trans o;clear L o0 o1 o2 o3 o4 o z;go_wp2_with fail;refine (N _ g).mono ?_;rintro e w2 ⟨b,rfl,D,R⟩;have r0:=D.cell q0;have i:=g.trans D;clear N q0 q2 D;go_wp2_with fail;refine (KA a w2 Q).mono ?_;rintro e w3 ⟨vx,fx,E,rfl,F,hx⟩;have r1:=F.cell r0;have k:=i.trans F;clear r0;go_wp2_with fail;refine (KA b w3 R).mono ?_;rintro e w4 ⟨vy,fy,G,rfl,q,hy⟩;have r2:=q.cell r1;have v:=k.trans q;have T:E=true->DM w.heap.size vx w4:=fun e=>((hx e).from i.size).later q
 have U:G=true->DM w.heap.size vy w4:=fun e=>(hy e).from k.size
 clear r1 hx hy q F g i k Z;go_wp2_with fail;refine (WT a b _ Q R).mono ?_;rintro e W5 ⟨t5,n5,rfl,l,ab⟩;have r3:=l.cell r2;have V:=v.trans l;have r:E=true->DM w.heap.size vx W5:=fun e=>(T e).later l
 have u:G=true->DM w.heap.size vy W5:=fun e=>(U e).later l
 have d:=d t5 ab;clear r2 v T U l;cases E
 .clear r u d;go_wp2_with fail;go_quiet (fail);go_wp2
  all_goals
   go_ret;exact f.out _ _ jq
 .cases G
  .clear r u d;go_wp2_with fail;go_quiet (fail);go_wp2
   all_goals
    go_ret;exact f.out _ _ jq
  .obtain ⟨px,cx,gx,Bx,Ex,rfl,H,ac,ad, -⟩:=r rfl;obtain ⟨py,cy,gy,By,Ey,rfl,I,ae,af, -⟩:=u rfl;obtain ⟨ai,aj,⟨⟨x0,x1,x2,x3,x4,x5⟩, -⟩, -⟩:=id H;obtain ⟨ak,al,⟨⟨y0,y1,y2,y3,y4,y5⟩, -⟩, -⟩:=id I;have am:=UQ cx cy;have an:=jF x0;have ao:=jF y0;generalize Ll cx cy=ne at *;have J:=jp H;have K:=jp I;clear r u H I;cases ne
   .go_wp2_with fail;go_quiet (fail);go_wp2_with fail;refine (d _ (V.trans jq)).mono ?_;rintro e w6 ⟨rfl,⟨ag,h2,ah⟩,W⟩
    have n:L6 w.heap.size W5 w6:=by
     obtain ⟨M,O,hM⟩:=W;exact ⟨M,(Ab.of_bel jq).trans O,hM⟩
    have X:=Wo px py cx cy gx gy Bx By Ex Ey w6 (J.out.kept n).state ac ad (K.out.kept n).state ae af;have H2:Hid (∀c (b:Bool),Aa w6 c->Cc y p (s+1) (.returned (.bool b)) c):=fun c b O=>⟨b,rfl,ag,h2.later O,ah⟩
    clear h2 W n J K d f;go_wp2_with fail;refine X.mono ?_;rintro e w7 ⟨m,rfl,ap, -⟩;clear X;go_wp2
    all_goals
     go_ret;exact H2.out _ _ jq
   .clear d J K;go_wp2_with fail;go_quiet (fail);go_wp2
    all_goals
     go_ret;exact f.out _ _ jq
theorem TY (z:Aw) (s:Nat) (x:WG) (A B C:Int) (S:ByteArray) (w:World) (h:Ao z s x w) (hs:s<=150000) (hA:Aj A) (hB:Aj B):
  Calls Tryz.prog 33 #[.pointer (some ⟨x.p,0,none⟩),AB 24 A B C S] w (Cc z x.p (s+1)):=by
 have J:=fun d (b:Aa w d)=>FI z s x A d (h.later b) hs hA
 have K:=fun d (b:Aa w d)=>FI z s x B d (h.later b) hs hB
 have f:=fun (t:ByteArray) (ht:t.size<=16777216) d (b:Aa w d)=>No z s x t d w h b hs jo
 have g:Hid (∀d (b:Bool),Aa w d->Cc z x.p (s+1) (.returned (.bool b)) d):=fun d b hb=>⟨b,rfl,x,(h.later hb).up jo,rfl⟩
 generalize x.p=p at *;clear h;have ac:∀d,Aa w d->w.heap.size<=d.heap.size:=fun d b=>b.size
 unfold AB;go_enter Tryz.func33,Tryz.ntmps33;go_wp2_with fail;obtain ⟨wo,L,D,o0,o1,o2,o3,o4⟩:=BV w (.int .i64 24) (.int .i64 A) (.int .i64 B) (.int .i64 C) (.string S) 28;rw [L];clear L;generalize ad:w.heap.size=po at o0 o1 o2 o3 o4 |-;clear ad;refine (J _ D).mono ?_;rintro e w1 ⟨a,rfl,o,E⟩;have q2:=o.cell o2;have q0:=o.cell o0;have i:=D.trans o;clear J o0 o1 o2 o3 o4 o D;go_wp2_with fail;refine (K _ i).mono ?_;rintro e w2 ⟨b,rfl,F,M⟩;have r0:=F.cell q0;have k:=i.trans F;clear K q0 q2 F;go_wp2_with fail;refine (KA a w2 E).mono ?_;rintro e w3 ⟨vx,fx,N,rfl,G,O⟩;have r1:=G.cell r0;have l:=k.trans G;clear r0;go_wp2_with fail;refine (KA b w3 M).mono ?_;rintro e w4 ⟨vy,fy,H,rfl,r,hy⟩;have r2:=r.cell r1;have u:=l.trans r;have P:N=true->DM w.heap.size vx w4:=fun e=>((O e).from k.size).later r
 have Q:H=true->DM w.heap.size vy w4:=fun e=>(hy e).from l.size
 clear r1 O hy r G i k l ac;go_wp2_with fail;refine (Uo a b _ E M).mono ?_;rintro e W5 ⟨t5,n5,rfl,n,ae⟩;have r3:=n.cell r2;have v:=u.trans n;have R:N=true->DM w.heap.size vx W5:=fun e=>(P e).later n
 have I:H=true->DM w.heap.size vy W5:=fun e=>(Q e).later n
 have f:=f t5 ae;clear r2 u P Q n;cases H
 .clear R I f;go_wp2
  all_goals
   go_ret;exact g.out _ _ jq
 .obtain ⟨py,cy,gy,By,Ey,rfl,T,af,ag,ah⟩:=I rfl;have U:=RS a py cy gy By Ey W5 E T.state af ag ah;clear R I T;go_wp2_with fail;refine U.mono ?_;rintro e w6 ⟨vm,V,rfl,ai,hm⟩;have W:=v.trans ai;clear U;by_cases he:V=0
  .subst he;obtain ⟨q,c,aj,Bm,Em,rfl,X,ak,Y⟩:=hm rfl;have y:=X.from v.size
   have Z:=jp y;clear hm X y;go_wp2_with fail;refine (f _ W).mono ?_;rintro e w7 ⟨rfl,⟨al,h2,am⟩,aa⟩;have ab:=Fw q c aj Bm Em 1 w7 (Z.out.kept aa).state ak ⟨ji,ji⟩ (fun x O=>⟨(Y x O).1.toI64,(Y x O).2.toI64⟩);have H2:Hid (∀d (b:Bool),Aa w7 d->Cc z p (s+1) (.returned (.bool b)) d):=fun d b hb=>⟨b,rfl,al,h2.later hb,am⟩
   clear h2 aa Z f g;go_wp2_with fail;refine ab.mono ?_;rintro e w8 ⟨m,rfl,an, -⟩;clear ab;go_wp2
   all_goals
    go_ret;exact H2.out _ _ jq
  .have ao:(V !=0)=true:=by rw [bne_iff_ne];exact he
   clear hm f;go_wp2
   all_goals
    go_ret;exact g.out _ _ jq
end Go.Proofs.YtpapdkhjdelfcaaGreat
