import Derived.Test.YtpapdkhjdelfcaaGreatMBQ
import Derived.Test.YtpapdkhjdelfcaaGreatMBR
import Derived.Test.YtpapdkhjdelfcaaGreatMBT
import Derived.Deep.RegionHeld3
import Derived.Deep.AppendLies
namespace Go.Proofs.YtpapdkhjdelfcaaGreat
open Go.RowKit
set_option maxRecDepth 100000
set_option maxHeartbeats 4000000
def FF (k:Int) (B:List BK) (S:jt) (n:Int):List BK:=if k=4 then Dj B S n else if k=5 then EQ B S else Er B S n
def EG (k:Int) (B:List BK) (S:jt) (n:Int):Int:=if k=4 then Cw B S n else if k=5 then Ej B S else Dy B S n
theorem Yc {B:List BK} {S:jt} {n k:Int} {j:Nat} {a:Bool} (c:k=4\/k=5\/k=6) (b:AH B) (h:Ez B S j a):Cf B k S n j a=(FF k B S n,EG k B S n):=by
 rcases c with rfl|rfl|rfl
 .exact Qw b h
 .exact TI b h
 .exact Sl b h
theorem AH.op {B:List BK} (h:AH B) (k:Int) (S:jt) (n:Int):AH (FF k B S n):=by
 unfold FF;split
 .exact h.add S n
 .split
  .exact h.rem S
  .exact h.set S n
theorem UL {B:List BK} {S:jt} {n k:Int} (c:k=4\/k=5\/k=6) (b:¬EG k B S n=0):FF k B S n=B:=by
 rcases c with rfl|rfl|rfl
 .have a:¬Cw B S n=0:=b;show Dj B S n=B;simp [Dj,a]
 .have a:¬Ej B S=0:=b;show EQ B S=B;simp [EQ,a]
 .have a:¬Dy B S n=0:=b;show Er B S n=B;simp [Er,a]
theorem Ut {k:Int} (e:k=4) (M:jr) (q:Nat) (c:Ac) (B:List BK) (g:Int) {L:jr} {d:List (Nat×AF×List Nat)} (id:jt) (n:Int) (w:jj) (f:AG M q ⟨c,B,g,L,d⟩ w) (i:∀k∈M,k<w.heap.size) (l:c.OK) (m:AH B) (a:0<=g) (b:g<=4611686018427387904):
  Calls Tryz.prog 20 #[.pointer (some ⟨q,0,none⟩),.string id,.int .i64 n] w (Ia M q ⟨c,FF k B id n,if EG k B id n=0 then g+1 else g,L,d⟩ (EG k B id n) w):=by
 subst e;exact Se M q c B g id n w f i l m a b
theorem VG {k n:Int} (e:k=5) (M:jr) (q:Nat) (c:Ac) (B:List BK) (g:Int) {L:jr} {d:List (Nat×AF×List Nat)} (id:jt) (w:jj) (f:AG M q ⟨c,B,g,L,d⟩ w) (i:∀k∈M,k<w.heap.size) (l:c.OK) (m:AH B) (a:0<=g) (b:g<=4611686018427387904):
  Calls Tryz.prog 60 #[.pointer (some ⟨q,0,none⟩),.string id] w (Ia M q ⟨c,FF k B id n,if EG k B id n=0 then g+1 else g,L,d⟩ (EG k B id n) w):=by
 subst e;exact Wi M q c B g id w f i l m a b
theorem Yb {k:Int} (e:k=6) (M:jr) (q:Nat) (c:Ac) (B:List BK) (g:Int) {L:jr} {d:List (Nat×AF×List Nat)} (id:jt) (n:Int) (w:jj) (f:AG M q ⟨c,B,g,L,d⟩ w) (i:∀k∈M,k<w.heap.size) (l:c.OK) (m:AH B) (a:0<=g) (b:g<=4611686018427387904):
  Calls Tryz.prog 61 #[.pointer (some ⟨q,0,none⟩),.string id,.int .i64 n] w (Ia M q ⟨c,FF k B id n,if EG k B id n=0 then g+1 else g,L,d⟩ (EG k B id n) w):=by
 subst e;exact TX M q c B g id n w f i l m a b
theorem L8 (base:Nat) (M:jr) (y:Ah) (d A o C:Int) (S:jt) (w:jj) (h:AM base M y w) (hS:S.size<=maxLen) (t:d=4\/d=5\/d=6):
  Calls Tryz.prog 35 #[.pointer (some ⟨y.a,0,none⟩),.agg #[.int .i64 d,.int .i64 A,.int .i64 o,.int .i64 C,.string S]] w (Fi base M y w):=by
 obtain ⟨n1,n2,n3⟩:=h.ne;have H:=jp h;have X:=h.2.2.1;have hM:=h.2.1;have ha:y.a∈M:=X _ (by simp [Ah.blocks]);have hq:y.q∈M:=X _ (by simp [Ah.blocks]);have a0:=h.2.2.2.2;obtain ⟨⟨F,R,ae,T,hc,⟨g0,g1,g2⟩,hH, -, -, -⟩, -⟩:=h;have af:=fun l (b:Aa w l) (e:d=4)=>Ut e M y.q y.c y.B y.g S o l (R.later b) (fun k t=>jN (hM k t) b.size) hc T g0 jo
 have ag:=fun l (b:Aa w l) (e:d=5)=>VG (n:=o) e M y.q y.c y.B y.g S l (R.later b) (fun k t=>jN (hM k t) b.size) hc T g0 jo
 have ah:=fun l (b:Aa w l) (e:d=6)=>Yb e M y.q y.c y.B y.g S o l (R.later b) (fun k t=>jN (hM k t) b.size) hc T g0 jo
 have a2:y.q∉[y.a]:=by simpa using fun e=>n1 e.symm
 have cg:=fun l (b:Ab [y.q] w l)=>Yk y.B y.vb d A o C S l (ae.later (b.mono (fun k t=>Or.inl (by rw [jP.1 t];exact hq)))).unmask T.1.1 t hS
 have ai:=fun l (b:Ab [y.q] w l)=>hH.later (b.mono (M':=M) (fun k t=>Or.inl (by rw [jP.1 t];exact hq)))
 have a3:∀k∈[y.q],k∈M\/w.heap.size<=k:=fun k t=>Or.inl (by rw [jP.1 t];exact hq)
 have c0:=F.1 0 _ rfl;have c1:=F.1 1 _ rfl;have c2:=F.1 2 _ rfl;have c3:=F.1 3 _ rfl;have c4:=F.1 4 _ rfl;have c5:=F.1 5 _ rfl;have c6:=F.1 6 _ rfl;have c7:=F.1 7 _ rfl;have c8:=F.1 8 _ rfl;have f7:=F.2 7 (by simp [Ah.cells]);have f8:=F.2 8 (by simp [Ah.cells]);have HL:=jp F;have HG:=jp T;have aw:=jp hc;have HM:=jp hM;have p:y.a∉[y.q]:=by simpa using n1
 have aj:=jp t
 have ax:(Hid (d=4)/\(d==4)=true)\/(Hid (d=5)/\(d==4)=false/\(d==5)=true)\/(Hid (d=6)/\(d==4)=false/\(d==5)=false):=by
  rcases t with rfl|rfl|rfl
  .exact Or.inl ⟨rfl,rfl⟩
  .exact Or.inr (Or.inl ⟨rfl,rfl,rfl⟩)
  .exact Or.inr (Or.inr ⟨rfl,rfl,rfl⟩)
 clear F R ae T hc hH n2 n3 X hM hS t;rcases ax with ⟨HK,ak⟩|⟨HK,ak,ay⟩|⟨HK,ak,ay⟩
 all_goals
  go_enter Tryz.func35,Tryz.ntmps35;go_wp2_with fail;have o0:(w.alloc (.cells #[.int .i64 d,.int .i64 A,.int .i64 o,.int .i64 C,.string S] 28)).cell? ⟨w.heap.size,0,none⟩=some (.int .i64 d):=js
  have o1:(w.alloc (.cells #[.int .i64 d,.int .i64 A,.int .i64 o,.int .i64 C,.string S] 28)).cell? ⟨w.heap.size,1,none⟩=some (.int .i64 A):=js
  have o2:(w.alloc (.cells #[.int .i64 d,.int .i64 A,.int .i64 o,.int .i64 C,.string S] 28)).cell? ⟨w.heap.size,2,none⟩=some (.int .i64 o):=js
  have o3:(w.alloc (.cells #[.int .i64 d,.int .i64 A,.int .i64 o,.int .i64 C,.string S] 28)).cell? ⟨w.heap.size,3,none⟩=some (.int .i64 C):=js
  have o4:(w.alloc (.cells #[.int .i64 d,.int .i64 A,.int .i64 o,.int .i64 C,.string S] 28)).cell? ⟨w.heap.size,4,none⟩=some (.string S):=js
  have Y:Aa w (w.alloc (.cells #[.int .i64 d,.int .i64 A,.int .i64 o,.int .i64 C,.string S] 28)):=Aa.step_alloc (jD w) _;generalize (w.alloc (.cells #[.int .i64 d,.int .i64 A,.int .i64 o,.int .i64 C,.string S] 28))=wo at *;have k0:=Y.cell c0;have a4:=HM.out _ hq;have u:w.heap.size∉[y.q]:=jx
  generalize w.heap.size=Z at o0 o1 o2 o3 o4 u |-;go_region_held3 (fun w'=>Ab [y.q] wo w'/\w'.cell? ⟨y.a,0,none⟩=some (.pointer (some ⟨y.q,0,none⟩))/\w'.cell? ⟨Z,4,none⟩=some (.string S)/\w'.cell? ⟨Z,2,none⟩=some (.int .i64 o)) ((exact ⟨j9,Ab.cell (w:=wo) j9 k0 p,Ab.cell (w:=wo) j9 o4 u,Ab.cell (w:=wo) j9 o2 u⟩)) (((first|go_at_call 20|go_at_call 60|go_at_call 61);(first|refine (af _ jq HK.out).mono ?_|refine (ag _ jq HK.out).mono ?_|refine (ah _ jq HK.out).mono ?_);rintro e I ⟨rfl,b1,al⟩));have D:Ab [y.q] wo I:=j9
  have i:Ab [y.q] w I:=(Ab.of_bel Y).trans D;have m0:=i.cell c0 p;have m1:=i.cell c1 p;have m2:=i.cell c2 p;have m3:=i.cell c3 p;have m4:=i.cell c4 p;have m5:=i.cell c5 p;have m6:=i.cell c6 p;have m7:=i.cell c7 p;have m8:=i.cell c8 p;have e7:=i.frozen c7 p f7;have e8:=i.frozen c8 p f8;have p0:=D.cell o0 u;have p1:=D.cell o1 u;have p2:=D.cell o2 u;have p3:=D.cell o3 u;have p4:=D.cell o4 u;have am:=ai I i;have an:=cg;have K:=jp i;clear c0 c1 c2 c3 c4 c5 c6 c7 c8 f7 f8 o0 o1 o2 o3 o4 k0 b1 D af ag ah cg ai Y;go_wp2_with fail;go_region_held3 (fun w'=>Aa I w'/\w'.cell? ⟨y.a,7,none⟩=some y.vb/\w'.cell? ⟨Z,0,none⟩=some (.int .i64 d)/\w'.cell? ⟨Z,1,none⟩=some (.int .i64 A)/\w'.cell? ⟨Z,2,none⟩=some (.int .i64 o)/\w'.cell? ⟨Z,3,none⟩=some (.int .i64 C)/\w'.cell? ⟨Z,4,none⟩=some (.string S)) ((exact ⟨jq,Aa.cell (a:=I) jq m7,Aa.cell (a:=I) jq p0,Aa.cell (a:=I) jq p1,Aa.cell (a:=I) jq p2,Aa.cell (a:=I) jq p3,Aa.cell (a:=I) jq p4⟩)) ((go_at_call 62;refine (an _ (i.step jq)).mono ?_;rintro e U ⟨v,k,E,ap,rfl,b2,hF,x,s,z⟩;have HQ:Hid (Ez y.B S k E/\Am U v (Cf y.B d S o k E).1/\ap=(Cf y.B d S o k E).2/\(ap=0->∀g,v.ownBlock=some g->I.heap.size<=g)):=⟨hF,x,s,z⟩;clear hF x s z));obtain ⟨hF,x,s,z⟩:=HQ.out;clear HQ;have m:Aa I U:=jq
  have aq:=Yc (n:=o) aj.out HG.out hF;rw [aq] at x s;simp only at x s;subst s
  obtain ⟨r,f,rfl⟩:∃ao cap,v= .slice ao (FF d y.B S o).length cap:=by
   obtain ⟨ao,cap,h,_⟩:=x.open;exact ⟨ao,cap,h⟩
  have hv:EG d y.B S o=0->Hid (∀g,(Value.slice r (FF d y.B S o).length f).ownBlock=some g->w.heap.size<=g):=fun h0 g hg=>jX K.out.size (z h0 g hg)
  have ar:=HG.out.op d S o;have N:Hid (¬EG d y.B S o=0->FF d y.B S o=y.B):=fun h0=>UL aj.out h0
  have aa:=jp x;have ab:=jp ar;have ac:=jp al;clear x ar al z hF aq an b2 i;generalize FF d y.B S o=J at *;have n7:=m.cell m7;have n8:=m.cell m8;have a5:=m.cell m1;have a6:=m.cell m2;have a7:=m.cell m3;have a8:=m.cell m4;have a9:=m.cell m5;have ba:=m.cell m6;have d7:=m.frozen m7 e7;have d8:=m.frozen m8 e8;clear m0 m1 m2 m3 m4 m5 m6 m7 m8 e7 e8 p0 p1 p2 p3 p4;have a1:y.a<U.heap.size:=jF n7;by_cases he:EG d y.B S o=0
  .have au:Hid (AG M y.q ⟨y.c,J,y.g+1,y.L,y.pp⟩ I):=by have:=ac.out;rw [if_pos he] at this;exact this
   have HV:=hv he;have W:∀l,Aa U l->Hid (Ab [y.a] U (l.setCell ⟨y.a,7,none⟩ (.slice r J.length f))):=fun l b=>((Ab.of_bel b).set js _)
   have md:∀(G:Int),G=y.g+1->∀l,Aa U l->Calls Tryz.prog 63 #[.agg #[.int .i64 y.c.alg,.int .i64 y.c.slots,.int .i64 y.c.points,.int .i64 y.c.probes,.string y.c.key,.int .i64 y.c.formats],.int .i64 G,.slice r J.length f] (l.setCell ⟨y.a,7,none⟩ (.slice r J.length f)) (IZ (l.setCell ⟨y.a,7,none⟩ (.slice r J.length f)) y.c G (.slice r J.length f) J):=fun G T l b=>Xx y.c G (.slice r J.length f) J _ aw.out (Ap.but aa.out (W l b).out (fun g hg e=>by have:=HV.out g hg;have:=H.out.mem.2.2.1;have:=jP.1 e;omega)) ab.out.1 ⟨jo,jo⟩
   have V:∀(G:Int),G=y.g+1->∀l e w3,Aa U l->IZ (l.setCell ⟨y.a,7,none⟩ (.slice r J.length f)) y.c G (.slice r J.length f) J e w3->∃n,e= .returned (.pointer (some ⟨n,0,none⟩))/\Aa U l/\Aa (l.setCell ⟨y.a,7,none⟩ (.slice r J.length f)) w3/\Hid (Fi base M y w (.returned (.bool true)) (w3.setCell ⟨y.a,8,none⟩ (.pointer (some ⟨n,0,none⟩)))):=fun G T l e w3 b hr=>by
    obtain ⟨n,h1,h2,h3,h4⟩:=hr.has (M:=M) jo (fun k t=>by have:=HM.out k t;have:=K.out.size;have:=m.size;have:=b.size;simp [World.setCell];omega) (fun g hg e=>by have:=HV.out g hg;have:=HM.out g e;omega);rw [T] at h4;exact ⟨n,h1,b,h2,H.out.done K.out au.out (m.trans b) (Ap.later aa.out b) HV.out ab.out h2 h4⟩
   rw [he];clear ac N hv au aa ab K HM W;rcases am with ⟨ad,hg⟩|⟨qs,Es,ad,⟨vB,vE, -,h6, -⟩, -⟩
   .rw [ad] at n8;have O:=md 1 jo;have P:=V 1 jo;clear md V;go_wp2_with fail;refine (O _ jq).mono ?_;intro e w3 hr;obtain ⟨n,rfl,az,Q,HR⟩:=P _ _ _ jq hr;have x8:=Q.cell ((Ad js).trans n8);have z8:=Q.frozen ((Ad js).trans n8) (by rw [Ag];exact d8);clear hr P O;go_wp2;go_ret;exact HR.out
   .rw [ad] at n8;have s6:=m.cell (Bn.1 h6).1;have O:=md (y.g+1) rfl;have P:=V (y.g+1) rfl;clear md V;go_wp2_with fail;refine (O _ jq).mono ?_;intro e w3 hr;obtain ⟨n,rfl,az,Q,HR⟩:=P _ _ _ jq hr;have x8:=Q.cell ((Ad js).trans n8);have z8:=Q.frozen ((Ad js).trans n8) (by rw [Ag];exact d8);clear hr P O;go_wp2;go_ret;exact HR.out
  .have hE:(EG d y.B S o==0)=false:=by rw [jI];exact he
   have HR:Hid (Fi base M y w (.returned (.bool true)) U):=by
    have av:=ac.out;rw [if_neg he,N.out he] at av;exact H.out.same K.out av m
   clear am;go_wp2;go_ret
   first|exact HR.out|(simpa using HR.out)
theorem S7 (a:Aw) (s:Nat) (x:WG) (k A B C:Int) (S:jt) (w:jj) (h:Ao a s x w) (b:s<=150000) (c:Aj A) (d:Aj B) (f:Aj C) (g:S.size<=1099511627776) (i:k=1\/k=2\/k=18\/k=19\/k=20\/k=21\/k=25):
  Calls Tryz.prog 31 #[.pointer (some ⟨x.p,0,none⟩),AB k A B C S] w (Gy a x.p (s+1)):=by
 rcases i with rfl|rfl|rfl|rfl|rfl|rfl|rfl
 .exact UF a s x A B C S w h c d
 .exact YZ a s x A B C S w h (by unfold maxLen;omega)
 .exact QV a s x A B C S w h b g
 .exact Tl a s x A B C S w h b c d f
 .exact WW a s x A B C S w h b c d
 .exact U4 a s x A B C S w h b c
 .exact Ws a s x A B C S w h b c d
def YL (c:Aw) (s:Nat) (x:WG) (w:jj) (e:Ending) (w':jj):Prop:=e= .returned (.tuple #[])/\(∃b,Ao c s b w'/\b.p=x.p/\b.prs=x.prs)/\∀(a:Addr) (v:ju),a.block∉x.M->w.cell? a=some v->w'.cell? a=some v
theorem Sf (c:Aw) (s:Nat) (x:WG) (S:jt) (w:jj) (h:Ao c s x w) (q:s<=150000) (m:S.size<=1099511627776):
  Calls Tryz.prog 41 #[.pointer (some ⟨x.p,0,none⟩),.string S] w (YL c (s+1) x w):=by
 have d:x.vh.ownBlock≠some x.p:=fun e=>by
  have r:1<=x.vh.ownBlock.toList.count x.p:=Ak.1 (by simp [e]);have t:=WG.count x x.p;have u:=DK h.2.2.1 x.p;have y:=GS x.p;omega
 refine (Lq c.heap.size x.p x.H.length x.vh (x.H.map Value.string) S w (h.1.1 7 _ rfl) (h.1.2 7 (by simp [WG.cells])) h.2.2.2.2.2.2.2.1 (by have:=h.2.2.2.2.2.2.2.2.2.2.2.1.2.1;omega) h.2.1.size d).mono ?_;rintro e w' ⟨rfl,g,cap,z,k,rfl,b,n⟩;refine ⟨rfl,⟨_,h.put k b n m,rfl,rfl⟩,fun a v l o=>?_⟩;have f:a.block∉x.vh.ownBlock.toList:=fun e=>l (h.2.2.2.1 _ (Ak.2 (by have:=WG.count x a.block;have:=Ak.1 e;omega)))
 have i:a.block≠x.p:=fun e=>l (e ▸ h.2.2.2.1 _ (by simp [WG.blocks]))
 rw [Ad (Or.inl (Ne.symm i))];exact k.cell o f
theorem Bz.unmask {M:jr} {w:jj} {p:Nat} {c:Ac} {a:Int} {B:List BK} {E:List EN} (h:Bz (Ay M w) p c a B E):Bz w p c a B E:=by
 obtain ⟨d,f,⟨g,i,k,l,m,n⟩,o,q,r,s,b⟩:=h;exact ⟨d,f,⟨(Bn.1 g).1,(Bn.1 i).1,(Bn.1 k).1,(Bn.1 l).1,(Bn.1 m).1,(Bn.1 n).1⟩,(Bn.1 o).1,(Bn.1 q).1,(Bn.1 r).1,Ap.unmask s,Ap.unmask b⟩
theorem Do.unmask {M:jr} {w:jj} {v:ju} {hx:Option HX} (h:Do (Ay M w) v hx):Do w v hx:=by
 rcases h with h|⟨q,c,a,B,E,b,d,f,g⟩
 .exact Or.inl h
 .exact Or.inr ⟨q,c,a,B,E,b,d,f.unmask,g⟩
theorem DQ.unmask {M:jr} {w:jj} {v:ju} {c:Ac} {B:List BK} {a:Int} (h:DQ (Ay M w) v c B a):DQ w v c B a:=by
 rcases h with h|⟨q,E,b,d,f⟩
 .exact Or.inl h
 .exact Or.inr ⟨q,E,b,d.unmask,f⟩
theorem Ao.pair_at {a:Aw} {s:Nat} {x:WG} {w:jj} (h:Ao a s x w) (k:Nat) (b:k<x.prs.length):(x.prs[k]).At a.heap.size x.M w:=(h.2.2.2.2.2.2.2.2.2.2.2.2.2 _ (jJ b)).1
theorem Ao.pick {c:Aw} {s:Nat} {x:WG} {w:jj} (h:Ao c s x w) (d:0<x.prs.length):∃g cap,x.vl= .slice (some ⟨g,0,none⟩) x.prs.length cap/\∀j (b:j<x.prs.length),w.cell? ⟨g,j,none⟩=some (.pointer (some ⟨(x.prs[j]).a,0,none⟩)):=by
 obtain ⟨g,cap,f, -, -,i⟩:=Fo h.2.2.2.2.2.2.1 d;exact ⟨g,cap,f,fun j b=>(i j b).trans (by simp [b])⟩
theorem Tryz.infoStrS:(Tryz.prog.info? 9).map (fun i=>(i.zero,i.size,i.bytes))=some (some (.string ByteArray.empty),1,16):=by kernel_rfl
def Ip (w:jj) (v:ju) (l:List ByteArray):Prop:=Ap w v l.length (l.map Value.string)
def Vs (w:jj) (L:List ByteArray) (e:Ending) (w':jj):Prop:=∃v:ju,e= .returned v/\Aa w w'/\Ip w' v L
theorem BU.names {c:Ac} {B:List BK} {E:List EN} (h:BU c B E):E.map (fun x=>x.1)=CM B (An c B):=by
 have:=congrArg (List.map (fun p:NI=>p.2)) h;rw [List.map_map,List.map_map] at this;exact this
theorem PA (p:Nat) (c:Ac) (s:Int) (B:List BK) (E:List EN) (w:jj) (h:Bz w p c s B E) (hE:E.length<=140000):
  Calls Tryz.prog 67 #[.pointer (some ⟨p,0,none⟩)] w (Vs w (E.map fun x=>x.1)):=by
 obtain ⟨R,f⟩:∃R,R=E.map fun x=>x.1:=⟨_,rfl⟩
 rw [<-f];have N:=jp f;clear f;obtain ⟨O,P,t,y,z⟩:=info_parts Tryz.infoStrS;obtain ⟨vB,vE,_,_,_,H,_,A⟩:=h;have Q:p<w.heap.size:=World.block_lt_of_cell? w ⟨p,8,none⟩ H;obtain ⟨ao,cap,rfl,I⟩:=A.off;go_enter Tryz.func67,Tryz.ntmps67;go_wp2;go_loopg [3,4] E.length (fun r v i wr=>∃(k:Nat) (L:List ByteArray),r=E.length - k/\k<=E.length/\i= .int .i64 k/\L.length=k/\L=(E.take k).map (fun x=>x.1)/\wr.ownsRow w.heap.size 9 1 v k (L.map Value.string)/\Aa w wr)
 case atStart=>exact ⟨0,[],jo,jo,rfl,rfl,rfl,World.ownsRow_nil _ _ _ _,jD _⟩
 case round=>
  obtain ⟨k,L,hr,hk,rfl,J,l,b,m⟩:=hrel;have n:=jp l;clear l;have d8:=m.cell H;by_cases o:k<E.length
  .obtain ⟨g,S,rfl,K, -, -⟩:=I k o;have T:=m.cell K;clear I K
   have q:Hid (L++[E[k].1]=(E.take (k+1)).map (fun x=>x.1)):=by
    show L++_=_;rw [jQ o,List.map_append,<-n.out];rfl
   generalize E[k]=U at *;obtain ⟨id,V,W⟩:=U;simp only at T q;go_wp2_with (first|(at_builtin;refine wpList_append_own _ rfl _ _ 36 rfl w.heap.size 9 O (.string ByteArray.empty) 1 16 Tryz.underlying36 P t y z rfl ji _ k (L.map Value.string) rfl ?o1 ⟨wr.heap.size,0,none⟩ 1 1 [.string id] rfl rfl ?c1 ?c2 ?c3 ?c4 ?c5 ?_))
   case o1=>exact b.alloc _
   case c1=>exact cell_one_new _ _ _
   case c2=>intro u M;simp at M;subst M;rfl
   case c3=>unfold maxLen;omega
   case c4=>omega
   case c5=>have:=m.size;simp;omega
   intro v' X a d _;have C:Aa w X:=(m.step_alloc _).grown d (fun g Y=>(b.lt g Y).1);clear d;go_wp2;go_roundg (E.length - (k+1))
   case measure=>omega
   case rel=>exact ⟨k+1,L++[id],rfl,jo,by go_num,by simp [J],q.out,by simpa using a,C⟩
  .have D:k=E.length:=jo
   have a:=Ap.of_owns b;rw [<-J] at a;have F:Ip wr _ L:=(by simpa [Ip] using a)
   have G:Hid (L=R):=by
    show L=R;rw [n.out,N.out,D,List.take_length]
   rw [G.out] at F;have Z:=jp F;clear F;go_wp2;go_ret;exact ⟨_,rfl,m,Z.out⟩
theorem Je (c:Ac) (B:List BK) (d:c.OK) (f:AL B):(An c B).length<=65536:=by
 have a:=fun b i=>(f.2 b i).2.2
 have k:c.slots<=211:=d.2.2.2.1
 have g:∀n (L:List EI),(BN L n).length<=n:=by
  intro n L
  induction n with
  |zero=>simp [BN]
  |succ n ih=>
   rw [BN];split
   .rw [NC];omega
   .omega
 have o:=f.1;rw [An];split
 .simp
 split
 .rw [je,F3,MA,List.length_replicate];omega
 split
 .have l:=L4 c.key 114 c.points B d.2.2.2.2.2.2.1 a B.length;have m:=g (AW c.key 114 c.points B B.length).length (AW c.key 114 c.points B B.length);rw [Dk];omega
 split
 .simp;omega
 split
 .have l:=L4 c.key 109 1 B jo a B.length;have m:=g (AW c.key 109 1 B B.length).length (AW c.key 109 1 B B.length);rw [Dk];omega
 .simp
def Fa:Ac:=⟨1,7,1,1,⟨#[48,49,50,51,52,53,54,55,56,57,97,98,99,100,101,102]⟩,3⟩
def Cy:ByteArray:=⟨#[97]⟩
def Ch:ByteArray:=⟨#[98]⟩
theorem JP:Fa.OK:=by
 refine ⟨ji,ji,ji,ji,?_,ji,ji,ji,ji,ji,ji,ji⟩;intro d b a;have c:d<7:=by simp only [Fa] at a;omega
 rcases (show d=2\/d=3\/d=4\/d=5\/d=6 by omega) with rfl|rfl|rfl|rfl|rfl <;>decide
theorem Sm:F3 Fa [(Cy,1),(Ch,1)]=[0,1,0,0,0,1,1]:=by decide+kernel
theorem Uy:An Fa [(Cy,1),(Ch,1)]=[(0,0),(0,1),(0,0),(0,0),(0,0),(0,1),(0,1)]:=by
 rw [An,if_neg ji,if_pos (show Fa.alg=1 from rfl),Sm];rfl
theorem Yu:CM [(Cy,1),(Ch,1)] (An Fa [(Cy,1),(Ch,1)])=[Cy,Ch,Cy,Cy,Cy,Ch,Ch]:=by rw [Uy];rfl
theorem Mk:Cw [] Ch 1=0/\Dj [] Ch 1=[(Ch,1)]:=⟨by decide+kernel,rfl⟩
theorem Lf:Cw [(Ch,1)] Cy 1=0/\Dj [(Ch,1)] Cy 1=[(Cy,1),(Ch,1)]:=by
 have a:Cw [(Ch,1)] Cy 1=0:=by decide+kernel
 refine ⟨a,?_⟩;unfold Dj;rw [if_pos a];have b:AO Cy Ch=true:=by decide+kernel
 simp [Bg,b]
theorem Ux (w:jj):Calls Tryz.prog 17 #[] w (Ew w fun x=>x=true):=by
 have l:=fun M=>PG Fa M JP
 rw [show Fa.cells=#[.int .i64 1,.int .i64 7,.int .i64 1,.int .i64 1,.string ⟨#[48,49,50,51,52,53,54,55,56,57,97,98,99,100,101,102]⟩,.int .i64 3] from rfl] at l;go_enter Tryz.func17,Tryz.ntmps17;go_wp2_with fail;refine (l _).mono ?_;rintro e D ⟨q,rfl,y,z,A,c⟩;have c:=c [q] js;have p:Aa w D:=(Aa.step_alloc (jD w) _).trans y;have r:w.heap.size<=q:=by simp at z;omega
 have d:=KV [q] q Fa [] 0 Ch 1 D c (by simpa using A) JP AH.nil jo jo;rw [Mk.1,Mk.2] at d;simp only [if_true,Ch] at d;clear l;go_wp2_with fail;refine d.mono ?_;rintro e N ⟨rfl,f,m⟩;have n:AH [(Ch,(1:Int))]:=by have:=AH.nil.add Ch 1;rwa [Mk.2] at this
 have b:=KV [q] q Fa [(Ch,1)] (0+1) Cy 1 N m (by simpa using m.lt) JP n jo jo;rw [Lf.1,Lf.2] at b;simp only [if_true] at b;rw [show Cy=⟨#[97]⟩ from rfl] at b;clear d;go_wp2_with fail;refine b.mono ?_;rintro e E ⟨rfl,i,s⟩;have t:AH [(Cy,(1:Int)),(Ch,1)]:=by have:=n.add Cy 1;rwa [Lf.2] at this
 have o:=PP [q] q Fa [(Cy,1),(Ch,1)] (0+1+1) E s (Je Fa _ JP t.1);rw [Yu] at o;have v:Aa w E:=Ab.belTo (Ab.belTo p f (by simpa using r)) i (by simpa using r);clear b c m s n t f i;go_wp2_with fail;refine o.mono ?_;rintro e S ⟨T,rfl,B,C, -⟩;obtain ⟨g,cap,O,P,Q⟩:=World.ownsRow.form C js;subst O;have a:=fun j u (R:([Cy,Ch,Cy,Cy,Cy,Ch,Ch].map Value.string)[j]?=some u)=>World.ownsRow.cells C (g:=g) rfl j u R
 have k:∀j,(⟨g,0,none⟩:Addr).add j=⟨g,j,none⟩:=fun j=>by unfold Addr.add;split <;>simp_all
 have F:=a 0 _ rfl;have G:=a 1 _ rfl;have H:=a 2 _ rfl;have I:=a 3 _ rfl;have J:=a 4 _ rfl;have K:=a 5 _ rfl;have L:=a 6 _ rfl;rw [k] at F G H I J K L;simp only [Cy,Ch] at F G H I J K L;clear a k o C;go_wp2;refine wp_loop_rounds 8 ?_;rw [rounds_succ];go_wp2;rw [rounds_succ];go_wp2;rw [rounds_succ];go_wp2;rw [rounds_succ];go_wp2;rw [rounds_succ];go_wp2;rw [rounds_succ];go_wp2;rw [rounds_succ];go_wp2;rw [rounds_succ];go_wp2;go_ret;exact ⟨_,rfl,v.trans B,by decide+kernel⟩
theorem BV (w:jj) (a b c d e:ju) (t:TypeId):∃wo,w.alloc (.cells #[a,b,c,d,e] t)=wo/\Aa w wo/\(wo.cell? ⟨w.heap.size,0,none⟩=some a/\wo.cell? ⟨w.heap.size,1,none⟩=some b/\wo.cell? ⟨w.heap.size,2,none⟩=some c/\wo.cell? ⟨w.heap.size,3,none⟩=some d/\wo.cell? ⟨w.heap.size,4,none⟩=some e):=
 ⟨_,rfl,Aa.step_alloc (jD w) _,js,js,js,js,js⟩
def Za (c:Aw) (s p:Nat) (M:jr) (y:Ah) (w:jj) (e:Ending) (w':jj):Prop:=e= .returned (.tuple #[])/\(∃b,Ao c s b w'/\b.p=p/\y.At c.heap.size b.M w')/\∀(a:Addr) (v:ju),a.block∉M->w.cell? a=some v->w'.cell? a=some v
theorem LH (b:Aw) (s:Nat) (x:WG) (k:Nat) (f:k<x.prs.length) (S:jt) (w:jj) (h:Ao b s x w) (g:s<=150000) (i:S.size<=1099511627776):
  Calls Tryz.prog 41 #[.pointer (some ⟨x.p,0,none⟩),.string S] w (Za b (s+1) x.p x.M x.prs[k] w):=by
 refine (Sf b s x S w h g i).mono ?_;rintro e w' ⟨rfl,⟨l,d,m,a⟩,c⟩;have:=d.pair_at k (by rw [a];exact f);simp only [a] at this;exact ⟨rfl,⟨l,d,m,this⟩,c⟩
def Hg (a:Aw) (p s:Nat) (e:Ending) (w':jj):Prop:=e= .returned (.bool true)/\∃x,Ao a s x w'/\x.p=p
theorem Mp.y {c:Aw} {s:Nat} {x:WG} {v:ju} {T:List ByteArray} {e:Ending} {w':jj} (h:Mp c s x v T e w') (k:Nat) (f:k<x.prs.length):e= .returned (.tuple #[])/\∃b,Ao c (s+1) b w'/\b.p=x.p/\(x.prs[k]).At c.heap.size b.M w'/\Ap w' v T.length (T.map Value.string):=by
 obtain ⟨g,b,d,i,a,l⟩:=h;have:=d.pair_at k (by rw [a];exact f);simp only [a] at this;exact ⟨g,b,d,i,this,l⟩
theorem LI (w:jj):(binOp .eql 36 (.slice none 0 0) (.slice none 0 0)).run Tryz.prog w= .ok (.bool true) w:=by kernel_rfl
theorem Pw (w:jj) (a:Addr) (n c:Nat):(binOp .eql 36 (.slice (some a) n c) (.slice none 0 0)).run Tryz.prog w= .ok (.bool false) w:=by kernel_rfl
def Tx (b:Aw) (s p:Nat) (y:Ah) (v:ju) (T:List ByteArray) (e:Ending) (w':jj):Prop:=e= .returned (.tuple #[])/\∃a,Ao b s a w'/\a.p=p/\y.At b.heap.size a.M w'/\Ap w' v T.length (T.map Value.string)
theorem XK (f:Aw) (s:Nat) (x:WG) (k:Nat) (l:k<x.prs.length) (v:ju) (T:List ByteArray) (d w:jj) (h:Ao f s x d) (a:Aa d w) (m:FC d.heap.size w v T) (i:T.length<=65536) (o:s<=150000) (c:T=[]->v= .slice none 0 0) (b:T≠[]->∃g,v= .slice (some ⟨g,0,none⟩) T.length T.length):
  Calls Tryz.prog 65 #[.pointer (some ⟨x.p,0,none⟩),v] w (Tx f (s+1) x.p x.prs[k] v T):=by
 by_cases n:T=[]
 .have q:=c n;subst q;refine (Yp x.p w).mono ?_;rintro e w' ⟨rfl,rfl⟩;exact ⟨rfl,x,(h.later a).up jo,rfl,(h.later a).pair_at k l,Ap.of_owns m⟩
 .obtain ⟨g,rfl⟩:=b n;refine (Ru f s x g T d w h a m i o).mono ?_;intro e w' r;exact r.y k l
theorem Lg {y:Ah} {base:Nat} {M:jr} {w:jj} (h:y.At base M w):(y.vs= .pointer none/\y.g=0/\CM y.B (An y.c y.B)=[])\/∃q E,y.vs= .pointer (some ⟨q,0,none⟩)/\Bz w q y.c y.g y.B E/\Dh y.c y.g y.B E/\(∀x∈E,Af x.2.1/\Af x.2.2)/\BU y.c y.B E/\y.g≠0:=by
 rcases h.2.2.2.2.2.2.1.unmask with ⟨b,a⟩|⟨q,E,b,a,d,f,i,k⟩
 .refine Or.inl ⟨b,a,?_⟩;rw [h.2.2.2.2.2.1.2.2 a,M3];rfl
 .exact Or.inr ⟨q,E,b,a,d,f,i,k⟩
theorem WF (V:Aw) (s:Nat) (x:WG) (k:Nat) (hk:k<x.prs.length) (A B C:Int) (S:jt) (w:jj) (h:Ao V s x w) (hs:s<=150000):
  Calls Tryz.prog 37 #[.pointer (some ⟨x.p,0,none⟩),.pointer (some ⟨(x.prs[k]).a,0,none⟩),AB 9 A B C S] w (Hg V x.p (s+1)):=by
 have r:=h.pair_at k hk;have G:=Je (x.prs[k]).c (x.prs[k]).B r.2.2.2.2.1 r.2.2.2.1.1;have K:=fun f (b:Aa w f)=>UC x.M (x.prs[k]).q (x.prs[k]).c (x.prs[k]).B (x.prs[k]).g f (r.2.1.later b) G
 have L:=fun v f (b:Aa w f) (R:FC w.heap.size f v (CM (x.prs[k]).B (An (x.prs[k]).c (x.prs[k]).B)))=>XK V s x k hk v _ w f h b R (by rw [CM,je];exact G) hs
 generalize x.M=M0 at *;generalize x.prs[k]=y at *;generalize x.p=p at *;obtain ⟨T,R⟩:∃T,T=CM y.B (An y.c y.B):=⟨_,rfl⟩;have HT:=jp R;rw [<-R] at K L;have W:T.length<=65536:=by rw [R,CM,je];exact G
 have c0:=r.1.1 0 _ rfl;have ab:=jF c0;simp only at ab;clear r h R G;unfold AB;go_enter Tryz.func37,Tryz.ntmps37;go_wp2_with fail;refine (K _ jq).mono ?_;rintro e w1 ⟨v,rfl,X,hO,n,i⟩;have Y:Aa w w1:=(Aa.step_alloc (jD w) _).trans X;have H:=L v w1 Y (World.ownsRow.mono hO js) n i;clear L K hO X c0;by_cases Z:T=[]
 .have J:=n Z;subst J;clear n i;go_wp2_with fail;refine H.mono ?_;rintro e N ⟨rfl,x2,h2,O,d,I⟩;have c0:=d.1.1 0 _ rfl;have U:=d.1.1 8 _ rfl;have t:=N9 x2.M y.q y.c y.B y.g N d.2.1;have l:=Lg d;have H2:Hid (∀f,Aa N f->Hg V p (s+1) (.returned (.bool true)) f):=fun f u=>⟨rfl,x2,h2.later u,O⟩
  clear h2 d H;go_wp2_with fail;refine t.mono ?_;rintro e w3 ⟨rfl,rfl⟩;clear t;rcases l with ⟨J,hg, -⟩|⟨q,E,J,z,P, -,Q, -⟩
  .rw [J] at U;rw [hg];have aa:=LI;go_wp2;go_ret;exact H2.out _ jq
  .rw [J] at U;have m:=PA q y.c y.g y.B E N z P.2.2.2.1;rw [Q.names,<-HT.out,Z] at m;obtain ⟨vB,vE, -,s6, -⟩:=z;clear I;go_wp2_with fail;refine m.mono ?_;rintro e w3 ⟨vm,rfl,o,hM⟩;have d8:=o.cell U;have t6:=o.cell s6;have D:=fun f (b:Aa w3 f)=>LQ [] [] (.slice none 0 0) vm f (Or.inl ⟨rfl,rfl,rfl⟩) (Ap.later hM b) ji ji
   clear m;go_wp2_with fail;refine (D _ jq).mono ?_;rintro e w4 ⟨b,rfl,F,u⟩;obtain rfl:b=true:=by first|exact u.2 rfl|exact u.2 trivial
   have e8:=F.cell d8;have u6:=F.cell t6;have aa:=LI;have ac:=Pw;clear D u;go_wp2;go_ret;exact H2.out _ jq
 .obtain ⟨gl,rfl⟩:=i Z;clear n i;have ae:T.length≠0:=fun e=>Z (jS e)
  have af:((T.length:Int)==0)=false:=by rw [jI];omega
  go_wp2_with fail;refine H.mono ?_;rintro e N ⟨rfl,x2,h2,O,d,I⟩;have c0:=d.1.1 0 _ rfl;have U:=d.1.1 8 _ rfl;have t:=N9 x2.M y.q y.c y.B y.g N d.2.1;have l:=Lg d;have H2:Hid (∀f,Aa N f->Hg V p (s+1) (.returned (.bool true)) f):=fun f u=>⟨rfl,x2,h2.later u,O⟩
  clear h2 d H;go_wp2_with fail;refine t.mono ?_;rintro e w3 ⟨rfl,rfl⟩;clear t;rcases l with ⟨J,hg,ad⟩|⟨q,E,J,z,P, -,Q, -⟩
  .exact absurd (HT.out.trans ad) Z
  .rw [J] at U;have m:=PA q y.c y.g y.B E N z P.2.2.2.1;rw [Q.names,<-HT.out] at m;obtain ⟨vB,vE, -,s6, -⟩:=z;go_wp2_with fail;refine m.mono ?_;rintro e w3 ⟨vm,rfl,o,hM⟩;have d8:=o.cell U;have t6:=o.cell s6;have D:=fun f (b:Aa w3 f)=>LQ T T (.slice (some ⟨gl,0,none⟩) T.length T.length) vm f (I.later (o.trans b)) (Ap.later hM b) W W
   clear m I;go_wp2_with fail;refine (D _ jq).mono ?_;rintro e w4 ⟨b,rfl,F,u⟩;obtain rfl:b=true:=by first|exact u.2 rfl|exact u.2 trivial
   have e8:=F.cell d8;have u6:=F.cell t6;have aa:=LI;have ac:=Pw;clear D u;go_wp2;go_ret;exact H2.out _ jq
theorem R3 (O:Aw) (s:Nat) (x:WG) (k:Nat) (hk:k<x.prs.length) (A B C:Int) (S:jt) (w:jj) (h:Ao O s x w) (hS:S.size<=65536):
  Calls Tryz.prog 37 #[.pointer (some ⟨x.p,0,none⟩),.pointer (some ⟨(x.prs[k]).a,0,none⟩),AB 10 A B C S] w (Hg O x.p (s+1)):=by
 have d:=h.pair_at k hk;have z:=Je (x.prs[k]).c (x.prs[k]).B d.2.2.2.2.1 d.2.2.2.1.1;have i:=fun m (b:Aa w m)=>Uf x.M (x.prs[k]).q (x.prs[k]).c (x.prs[k]).B (x.prs[k]).g S m (d.2.1.later b) z d.2.2.2.2.1 jo
 have V:Hid (∀m,Aa w m->Hg O x.p (s+1) (.returned (.bool true)) m):=fun m hb=>⟨rfl,x,(h.later hb).up jo,rfl⟩
 have t:=Lg d;generalize x.M=M0 at *;generalize x.prs[k]=y at *;generalize x.p=p at *;have P:=d.1.1 0 _ rfl;have W:=d.1.1 8 _ rfl;have Q:=jF P;simp only at Q;clear d h z;unfold AB;obtain ⟨LO,u⟩:∃X,X=IT y.c y.B y.g S:=⟨_,rfl⟩;rw [<-u] at i;have n:=jp u;clear u;obtain ⟨K,Y⟩:=LO;unfold EH at i;simp only at i;go_enter Tryz.func37,Tryz.ntmps37;go_wp2_with fail;obtain ⟨wo,D,o,Z,o1,o2,o3,L⟩:=BV w (.int .i64 10) (.int .i64 A) (.int .i64 B) (.int .i64 C) (.string S) 28;rw [D];clear D;have k0:=o.cell P;have k8:=o.cell W;generalize w.heap.size=po at Z o1 o2 o3 L |-;go_region_held3 (fun w'=>Aa wo w'/\w'.cell? ⟨y.a,0,none⟩=some (.pointer (some ⟨y.q,0,none⟩))/\w'.cell? ⟨po,4,none⟩=some (.string S)) ((exact ⟨jq,Aa.cell (a:=wo) jq k0,Aa.cell (a:=wo) jq L⟩)) ((go_at_call 68;refine (i _ jq).mono ?_;rintro e v ⟨rfl,R⟩));have f:Aa wo v:=jq
 have r:Aa w v:=o.trans f;have N:=f.cell k8;have m4:=f.cell L;clear Z o1 o2 o3 L k0 k8 P W i R o f;rcases t with ⟨T,U, -⟩|⟨q,E,T,F,G,hW,H,U⟩
 .rw [T] at N;have I:(K,Y)=(ByteArray.empty,(7:Int)):=by rw [n.out,IT,if_pos U]
  obtain ⟨rfl,rfl⟩:=Prod.mk.inj I;clear n I;go_wp2;go_ret;exact V.out _ jq
 .rw [T] at N;have I:(K,Y)=GR y.c y.B (An y.c y.B) S:=by rw [n.out,IT,if_neg U,Q8]
  have l:=fun m (b:Aa v m)=>Uv q y.c y.g y.B (An y.c y.B) E S m (F.later (r.trans b)) G hW jo H.tabF
  rw [<-I] at l;unfold EH at l;simp only at l;have aa:(K.toList==K.toList)=true:=FE.2 rfl;clear n I F G hW H;go_wp2_with fail;go_region_held3 (fun w'=>Aa v w'/\w'.cell? ⟨y.a,8,none⟩=some (.pointer (some ⟨q,0,none⟩))/\w'.cell? ⟨po,4,none⟩=some (.string S)) ((exact ⟨jq,Aa.cell (a:=v) jq N,Aa.cell (a:=v) jq m4⟩)) ((go_at_call 69;refine (l _ jq).mono ?_;rintro e w3 ⟨rfl,ab⟩));have J:Aa v w3:=jq
  clear l N m4;go_wp2;go_ret;exact V.out _ (r.trans J)
theorem Tryz.infoPln:(Tryz.prog.info? 101).map (fun i=>(i.zero,i.size,i.bytes))=some (some (.pointer none),1,8):=by kernel_rfl
def IX (base:Nat) (M:jr) (y:Ah) (w:jj) (e:Ending) (w':jj):Prop:=e= .returned (.bool true)/\El base M y w w'
theorem TN (base:Nat) (M:jr) (y:Ah) (f:Int) (w:jj) (h:AM base M y w) (t:y.even) (hb:base<=w.heap.size):
  Calls Tryz.prog 38 #[.pointer (some ⟨y.a,0,none⟩),.int .i64 f] w (IX base M y w):=by
 obtain ⟨i0,hi,O,P,Q⟩:=info_parts Tryz.infoPln;have c0:=h.1.1.1 0 _ rfl;have L:=h.1.1.1 9 _ rfl;have f9:=h.1.1.2 9 (by simp [Ah.cells]);have m:=h.1.2.2.2.2.2.2.2.1;have aa:=h.1.2.2.2.2.2.2.2.2.1;have R:=h.le y.a;have S:=GS y.a
 have D:y.a∉y.vp.ownBlock.toList:=fun e=>by
  have:=Ak.1 e;omega
 have E:=jp h;obtain ⟨ao,cap,T⟩:=CP m;have N:=jp m;have ad:=h.mem.2.2.1;have i:∀B,Aa w B->Hid (IX base M y w (.returned (.bool true)) B):=fun B hb=>⟨rfl,E.out.unchanged t hb⟩
 have n:=h.1.2.1;have o:y.pp.length=y.ps.length:=t.1;have U:=jp t;clear h m R S;by_cases hf:f<1\/3<f
 .have V:(decide (f<1)||decide (3<f))=true:=by simpa using hf
  have c:=Xm y.q f w jo;clear n;go_enter Tryz.func38,Tryz.ntmps38;go_wp2_with fail;refine c.mono ?_;rintro e k ⟨rfl,v⟩;have W:=i k v;clear c i;go_wp2
  all_goals
   go_ret;exact W.out
 .have V:(decide (f<1)||decide (3<f))=false:=by simpa using hf
  by_cases h4:y.ps.length=4
  .have c:=XH (f:=f) n (show 4<=y.pp.length by omega) ⟨jo,jo⟩;rw [T,h4] at L;clear n;go_enter Tryz.func38,Tryz.ntmps38;go_wp2_with fail;refine c.mono ?_;rintro e k ⟨rfl,v⟩;have W:=i k v;have d9:=v.cell L;clear c i L;go_wp2
   all_goals
    go_ret;exact W.out
  .have ae:((y.ps.length:Int)==4)=false:=by rw [jI];omega
   have F:0<=f/\f<=3:=jo
   obtain ⟨fm,rfl⟩:=jM F.1;have c:=(Qv (x:=y.svp) n E.out.2.1 (show y.pp.length<4 by omega) (show 1<=fm/\fm<=3 by omega)).mono (fun e w' hr=>E.out.joinP hr);rw [o] at c;have X:=jp T;have af:=jp o;clear i n N o t;generalize Y:((fm:Nat):Int)=f at *;go_enter Tryz.func38,Tryz.ntmps38;go_wp2_with fail;refine c.mono ?_;rintro e k ⟨rfl,pz,L',A⟩;obtain ⟨M1,l⟩:=A.at;have ag:=A.size;have G:k.cell? ⟨y.a,9,none⟩=some y.vp:=l.1.1 9 _ rfl;have y9:k.frozen? ⟨y.a,9,none⟩=false:=l.1.2 9 (by simp [Ah.cells]);have N:Hid (k.ownsRow base 101 1 y.vp y.ps.length (y.ps.map fun z=>Value.pointer (some ⟨z.p,0,none⟩))):=l.2.2.2.2.2.2.2.1;have HQ:=jp A;have H:∀B,Aa (k.alloc (.cells #[.int .i64 f,.pointer none,.int .i64 0,.int .i64 0,.slice none 0 0,.bool false] 103)) B->BX B k.heap.size f (.pointer none) 0 0 (.slice none 0 0) false:=fun B b=>BX.later ⟨⟨js,js,js,js,js,js⟩,fun j=>by simp⟩ b
   have I:=jp H;rw [T] at G;have ab:=jF G;clear c H l A c0 L f9;go_wp2_with (first|(at_builtin;refine wpList_append_lies _ rfl _ _ 62 rfl base 101 i0 (.pointer none) 1 8 Tryz.underlying62 hi O P Q rfl ji _ y.ps.length (y.ps.map fun z=>Value.pointer (some ⟨z.p,0,none⟩)) rfl ?p1 ⟨k.heap.size+1,0,none⟩ 1 1 [.pointer (some ⟨k.heap.size,0,none⟩)] rfl rfl ?d1 ?d2 ji ?d3 ?d4 ?d5 _ rfl ?_))
   case p1=>rw [<-X.out];exact World.ownsRow.alloc (World.ownsRow.alloc N.out _) _
   try (case d1=>exact Fz _ _ _ _ js)
   case d2=>first|rfl|(intro u hu;simp at hu;subst hu;rfl)
   case d3=>unfold maxLen;omega
   case d4=>omega
   case d5=>first|omega|(simp;omega)
   intro g J w3 r d s ac;rw [<-X.out] at d s;have b1:=(Aa.step_alloc (Aa.step_alloc (jD k) (.cells #[.int .i64 f,.pointer none,.int .i64 0,.int .i64 0,.slice none 0 0,.bool false] 103)) (.cells #[.pointer (some ⟨k.heap.size,0,none⟩)] 101));have K:=jp (I.out _ (Aa.step_alloc (jD _) (.cells #[.pointer (some ⟨k.heap.size,0,none⟩)] 101)));have b3:=IW d;have C:Ab y.vp.ownBlock.toList k w3:=(Ab.of_bel b1).trans b3;have z9:=C.cell G D;have u9:=C.frozen G D y9
   have HJ:Hid (El base M y w (w3.setCell ⟨y.a,9,none⟩ (.slice (some ⟨g,0,none⟩) (y.ps.length+1) J))):=by
    refine ⟨_,E.out.then HQ.out rfl (fun M' Z=>Z.join b1 (jH _) jx K.out F b3 r (s.imp id (fun e=>by simp at e |-;omega)) (by show y.ps.length<4;omega)),?_⟩;exact U.out.add (by rw [<-Y];exact Zcr.new fm)
   clear r d s K I E N X HQ C G y9;go_wp2
   all_goals
    go_ret;exact ⟨rfl,HJ.out⟩
end Go.Proofs.YtpapdkhjdelfcaaGreat
