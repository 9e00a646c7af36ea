import Derived.Test.YtpapdkhjdelfcaaGreatMBL
import Derived.Test.YtpapdkhjdelfcaaGreatMBM
namespace Go.Proofs.YtpapdkhjdelfcaaGreat
open Go.RowKit
set_option maxRecDepth 100000
set_option maxHeartbeats 4000000
def IZ (w:jj) (c:Ac) (a:Int) (d:ju) (B:List BK) (e:Ending) (w':jj):Prop:=∃(q:Nat) (b:ju) (E:List EN),e= .returned (.pointer (some ⟨q,0,none⟩))/\Aa w w'/\w.heap.size<=q/\
 ((w'.cell? ⟨q, 0, none⟩ = some (.int .i64 c.alg) /\ w'.cell? ⟨q, 1, none⟩ = some (.int .i64 c.slots) /\ w'.cell? ⟨q, 2, none⟩ = some (.int .i64 c.points) /\ w'.cell? ⟨q, 3, none⟩ = some (.int .i64 c.probes) /\ w'.cell? ⟨q, 4, none⟩ = some (.string c.key) /\ w'.cell? ⟨q, 5, none⟩ = some (.int .i64 c.formats)) /\
 w'.cell? ⟨q, 6, none⟩ = some (.int .i64 a) /\ w'.cell? ⟨q, 7, none⟩ = some d /\ w'.cell? ⟨q, 8, none⟩ = some b /\ Am w' d B /\ Cl w' b E) /\ (∀ g, b.ownBlock = some g -> w.heap.size <= g) /\ Dh c a B E /\ (∀ x ∈ E, Af x.2.1 /\ Af x.2.2) /\ BU c B E
def DQ (w:jj) (v:ju) (c:Ac) (B:List BK) (a:Int):Prop:=(v= .pointer none/\a=0)\/∃(q:Nat) (E:List EN),v= .pointer (some ⟨q,0,none⟩)/\Bz w q c a B E/\Dh c a B E/\(∀x∈E,Af x.2.1/\Af x.2.2)/\BU c B E/\a≠0
theorem DQ.later {a w:jj} {v:ju} {c:Ac} {B:List BK} {b:Int} (h:DQ a v c B b) (k:Aa a w):DQ w v c B b:=by
 rcases h with h|⟨q,E,d,f,g⟩
 .exact Or.inl h
 .exact Or.inr ⟨q,E,d,f.later k,g⟩
theorem Fx.from {w a:jj} {c:Ac} {B:List BK} {e:Ending} {w':jj} (h:Fx a c B e w') (b:Aa w a):Fx w c B e w':=by
 obtain ⟨v,E,f,i,d,k⟩:=h;exact ⟨v,E,f,b.trans i,⟨d.1,fun g l=>jX b.size (d.2 g l)⟩,k⟩
theorem KC.tab {w:jj} {c:Ac} {B:List BK} {letter:UInt8} {a:Int} {e:Ending} {w':jj} (h:KC w c B letter a e w') (f:AL B) (g:(c.alg=2/\letter=114/\a=c.points)\/(c.alg=4/\letter=109/\a=1)):Fx w c B e w':=by
 obtain ⟨v,E,i,k,l,m,n,o,p⟩:=h;refine ⟨v,E,i,k,l,m,n,o,?_⟩;unfold BU;rw [p];rcases Int.lt_or_le (As B) 1 with b|b
 .rw [TJ f b];unfold An;rw [if_pos b]
 .unfold An;rw [if_neg jo];rcases g with ⟨d,rfl,rfl⟩|⟨d,rfl,rfl⟩
  .rw [if_neg jo,if_pos d]
  .rw [if_neg jo,if_neg jo,if_neg jo,if_pos d]
theorem RU (c:Ac) (q:ju) (B:List BK) (w:jj) (n:c.OK) (r:Am w q B) (o:AL B):
  Calls Tryz.prog 111 #[.agg c.cells,q] w (Fx w c B):=by
 have f:=fun d (b:Aa w d) (l:c.alg=1)=>Xf c q B d n (r.later b) o l
 have g:=fun d (b:Aa w d) (l:c.alg=3)=>Tk c q B d n (r.later b) o l
 have i:=fun d (b:Aa w d) (l:c.alg=2)=>(NH c q B 114 c.points d n (r.later b) o (by have:=n.2.2.2.2.2.1;omega) n.2.2.2.2.2.2.1 (Or.inl l)).mono (fun e w' h=>h.tab o (Or.inl ⟨l,rfl,rfl⟩))
 have k:=fun d (b:Aa w d) (l:c.alg=4)=>(NH c q B 109 1 d n (r.later b) o ji ji (Or.inr l)).mono (fun e w' h=>h.tab o (Or.inr ⟨l,rfl,rfl⟩))
 have l:c.alg=1\/c.alg=2\/c.alg=3\/c.alg=4:=by have:=n.1;have:=n.2.1;omega
 obtain ⟨A,s⟩:∃A,A=c:=⟨_,rfl⟩;have C:=jp s;clear s r o n;obtain ⟨alg,y,u,x,key,t⟩:=c;simp only [Ac.cells] at *;rcases l with rfl|rfl|rfl|rfl
 .clear g i k;replace f:=fun d b=>f d b rfl
  go_enter Tryz.func111,Tryz.ntmps111;go_wp2_with fail;refine (f _ jq).mono ?_;intro e z m;have a:=Fx.from (w:=w) m jq
  obtain ⟨v,E,rfl, -⟩:=id a;have p:=jp a;clear m a f;go_wp2;go_ret;exact p.out
 .clear g f k;replace i:=fun d b=>i d b rfl
  go_enter Tryz.func111,Tryz.ntmps111;go_wp2_with fail;refine (i _ jq).mono ?_;intro e z m;have a:=Fx.from (w:=w) m jq
  obtain ⟨v,E,rfl, -⟩:=id a;have p:=jp a;clear m a i;go_wp2;go_ret;exact p.out
 .clear f i k;replace g:=fun d b=>g d b rfl
  go_enter Tryz.func111,Tryz.ntmps111;go_wp2_with fail;refine (g _ jq).mono ?_;intro e z m;have a:=Fx.from (w:=w) m jq
  obtain ⟨v,E,rfl, -⟩:=id a;have p:=jp a;clear m a g;go_wp2;go_ret;exact p.out
 .clear g i f;replace k:=fun d b=>k d b rfl
  go_enter Tryz.func111,Tryz.ntmps111;go_wp2_with fail;refine (k _ jq).mono ?_;intro e z m;have a:=Fx.from (w:=w) m jq
  obtain ⟨v,E,rfl, -⟩:=id a;have p:=jp a;clear m a k;go_wp2;go_ret;exact p.out
theorem Xx (c:Ac) (n:Int) (q:ju) (B:List BK) (w:jj) (A:c.OK) (z:Am w q B) (C:AL B) (D:Aj n):
  Calls Tryz.prog 63 #[.agg c.cells,.int .i64 n,q] w (IZ w c n q B):=by
 have r:=fun J (b:Aa w J)=>RU c q B J A (z.later b) C
 obtain ⟨N,K,rfl⟩:∃s cap,q= .slice s B.length cap:=by
  obtain ⟨s,cap,h,_⟩:=z.open;exact ⟨s,cap,h⟩
 have O:=jp z;have P:=jp A;have Q:=jp C;clear z A C;obtain ⟨alg,d,f,i,key,a⟩:=c;simp only [Ac.cells] at *;go_enter Tryz.func63,Tryz.ntmps63;go_wp2_with fail;refine (r _ jq).mono ?_;rintro e F ⟨v,E,rfl,k,G,m,l,t,u⟩;have H:=jp u;clear u
 obtain ⟨I,y,rfl⟩:∃s cap,v= .slice s E.length cap:=by
  rcases G.1.form with ⟨rfl,rfl⟩|⟨g,cap,rfl,_⟩
  .exact ⟨none,0,rfl⟩
  .exact ⟨_,cap,rfl⟩
 have o:Aa w F:=(Aa.step_alloc (jD w) _).trans k;have V:=k.cell (p:=⟨w.heap.size,0,none⟩) (v:= .int .i64 alg) js;have W:=k.cell (p:=⟨w.heap.size,1,none⟩) (v:= .int .i64 d) js;have X:=k.cell (p:=⟨w.heap.size,2,none⟩) (v:= .int .i64 f) js;have Y:=k.cell (p:=⟨w.heap.size,3,none⟩) (v:= .int .i64 i) js;have Z:=k.cell (p:=⟨w.heap.size,4,none⟩) (v:= .string key) js;have m5:=k.cell (p:=⟨w.heap.size,5,none⟩) (v:= .int .i64 a) js;have R:Hid (Dz (w.alloc (.cells #[.int .i64 alg,.int .i64 d,.int .i64 f,.int .i64 i,.string key,.int .i64 a] 30)).heap.size F (.slice I E.length y) E/\E.length<=140000/\(∀x∈E,DZ B x)/\(¬EV ⟨alg,d,f,i,key,a⟩->E=[]\/(E.length:Int)=d)):=⟨G,m,l,t⟩;have S:=o.size;clear r k G m l t;go_wp2;go_ret;obtain ⟨L,T,M,U⟩:=R.out;refine ⟨F.heap.size,_,E,rfl,o.step_alloc _,S,⟨⟨js,js,js,js,js,js⟩,js,js,js,O.out.later (o.step_alloc _),L.1.later ((jD _).step_alloc _)⟩,?_,⟨P.out,D,Q.out,T,fun x hx=>(M x hx).1,U⟩,fun x hx=>(M x hx).2,H.out⟩;intro g D;have:=L.2 g D;simp at this;omega
def dE (E:List EN) (H:Int) (i:Nat):Int:=match E[i]? with
 |some x=>Hq (wv x.2.1 x.2.2) H
 |none=>0
def Ek (E:List EN) (H:Int) (k:Nat) (s:jt) (F:Int):Prop:=k=0\/∃j,∃(a:j<E.length),j<k/\s=E[j].1/\F=dE E H j/\(∀i,i<k->dE E H j<=dE E H i)/\∀i,i<j->dE E H j<dE E H i
theorem Ek.take {E:List EN} {H:Int} {k:Nat} {s:jt} {F:Int} (h:Ek E H k s F) (g:k<E.length) (b:k=0\/dE E H k<F):Ek E H (k+1) E[k].1 (dE E H k):=by
 refine Or.inr ⟨k,g,jo,rfl,rfl,?_⟩;rcases h with h|⟨j,n,l, -,hF,a,m⟩
 .subst h;exact ⟨fun i c=>by rw [show i=0 by omega];exact Int.le_refl _,fun i c=>by omega⟩
 .have d:dE E H k<F:=by
   rcases b with b|b
   .omega
   .exact b
  rw [hF] at d
  refine ⟨fun i c=>?_,fun i c=>?_⟩
  .by_cases f:i=k
   .rw [f];exact Int.le_refl _
   .have:=a i jo
    omega
  .have:=a i c
   omega
theorem Ek.keep {E:List EN} {H:Int} {k:Nat} {s:jt} {F:Int} (h:Ek E H k s F) (d:k≠0) (f:¬dE E H k<F):Ek E H (k+1) s F:=by
 rcases h with h|⟨j,g,l,m,hF,a,b⟩
 .exact absurd h d
 .refine Or.inr ⟨j,g,jo,m,hF,fun i n=>?_,b⟩;by_cases c:i=k
  .rw [c];rw [hF] at f;omega
  .exact a i jo
def S5 (w:jj) (E:List EN) (H:Int) (e:Ending) (w':jj):Prop:=∃(s:jt) (x y:Int),e= .returned (.tuple #[.string s,.agg #[.int .i64 x,.int .i64 y]])/\Aa w w'/\Af x/\Af y/\Ek E H E.length s (wv x y)
theorem AP.sub3 {w a:jj} {x y z:Value×Int} {u:Value×Int} (h:AP w [x,y,z,u] a):AP w [x,y,z] a:=by
 refine ⟨h.1,fun v b=>h.2.1 v (by simp only [ja,List.not_mem_nil,or_false] at b |-;rcases b with h|h|h <;>simp [h]),?_⟩;have:=h.2.2;rw [show [x,y,z,u]=[x,y,z]++[u] from rfl,List.map_append] at this;exact (List.nodup_append.1 this).1
theorem PK (p:Nat) (c:Ac) (ah:Int) (B:List BK) (E:List EN) (C D:Int) (w:jj) (h:Bz w p c ah B E) (hE:E.length<=140000) (hI:∀x∈E,Af x.2.1/\Af x.2.2) (ai:Af C) (aj:Af D):
  Calls Tryz.prog 115 #[.pointer (some ⟨p,0,none⟩),.agg #[.int .i64 C,.int .i64 D]] w (S5 w E (wv C D)):=by
 obtain ⟨H,hH⟩:∃H,H=wv C D:=⟨_,rfl⟩;rw [<-hH];have HH:=jp hH;clear hH;obtain ⟨vB,vE,_,_,_,c8,_,ak⟩:=h;have a6:p<w.heap.size:=World.block_lt_of_cell? w ⟨p,8,none⟩ c8;obtain ⟨ao,cap,rfl,hc⟩:=ak.off;go_enter Tryz.func115,Tryz.ntmps115;go_wp2
 have S0:AP w [(.pointer (some ⟨w.heap.size,0,none⟩),H),(.pointer (some ⟨w.heap.size+1,0,none⟩),0),(.pointer (some ⟨w.heap.size+1+1,0,none⟩),0)] (((w.alloc (.cells #[.int .i64 C,.int .i64 D] 144)).alloc (.cells #[.int .i64 0,.int .i64 0] 144)).alloc (.cells #[.int .i64 0,.int .i64 0] 144)):=by
  have q1:=(AP.nil w).more (Aa.step_alloc (jD _) _) (AX.new (jH _) ai aj HH.out.symm 144) (jH _);have q2:=q1.more (Aa.step_alloc (jD _) _) (AX.new js Cd Cd (X:=0) rfl 144) (jH _);have q3:=q2.more (Aa.step_alloc (jD _) _) (AX.new jx Cd Cd (X:=0) rfl 144) (jH _);simpa using q3
 go_loopg [6,8] E.length (fun r b i wr=>∃(s:jt) (k:Nat) (F:Int),k<=E.length/\r=E.length - k/\b= .string s/\i= .int .i64 k/\AP w [(.pointer (some ⟨w.heap.size,0,none⟩),H),(.pointer (some ⟨w.heap.size+1,0,none⟩),0),(.pointer (some ⟨w.heap.size+1+1,0,none⟩),F)] wr/\Ek E H k s F)
 case atStart=>exact ⟨_,0,0,jo,jo,rfl,rfl,S0,Or.inl rfl⟩
 case round=>
  obtain ⟨s,k,F,hk,hr,rfl,rfl,a,P⟩:=hrel;have q:=jp P;clear P S0;have d8:=a.1.cell c8;by_cases t:k<E.length
  .obtain ⟨g,u,rfl,q0,q1,q2⟩:=hc k t;have r0:=a.1.cell q0;have r1:=a.1.cell q1;have r2:=a.1.cell q2;obtain ⟨Q,R⟩:=hI _ (jJ t);clear hc hI q0 q1 q2;have m:Hid (k=0\/dE E H k<F->Ek E H (k+1) E[k].1 (dE E H k)):=fun h=>q.out.take t h
   have y:Hid (k≠0->¬dE E H k<F->Ek E H (k+1) s F):=fun C D=>q.out.keep C D
   obtain ⟨o,G⟩:∃X,X=dE E H k:=⟨_,rfl⟩
   have S:Hid (o=Hq (wv E[k].2.1 E[k].2.2) H):=by
    show o=_;rw [G];unfold dE;rw [jG t]
   rw [<-G] at m y;clear G q;generalize E[k]=en at *;obtain ⟨id,T,U⟩:=en;simp only at r0 r1 r2 Q R m S;go_upto_region 6 with fail
   go_cut [9] (fun u9 wc=>AP w [(.pointer (some ⟨w.heap.size,0,none⟩),H),(.pointer (some ⟨w.heap.size+1,0,none⟩),0),(.pointer (some ⟨w.heap.size+1+1,0,none⟩),F),(u9,o)] wc/\wc.cell? ⟨g,u+k * 3,none⟩=some (.string id))
   case first=>
    obtain ⟨p3,x3,y3,E3,a7,al,am,a8,a9,an,ap,V⟩:=a.2.1 (.pointer (some ⟨w.heap.size,0,none⟩),H) js;simp only at V;simp only [Value.pointer.injEq,Option.some.injEq,Addr.mk.injEq,and_true] at E3;subst E3;go_region_held3 (fun w'=>Aa wr w'/\w'.cell? ⟨p,8,none⟩=some (.slice (some ⟨g,u,none⟩) E.length cap)/\w'.cell? ⟨g,u+k * 3+1,none⟩=some (.int .i64 T)/\w'.cell? ⟨g,u+k * 3+2,none⟩=some (.int .i64 U)/\w'.cell? ⟨w.heap.size,0,none⟩=some (.int .i64 x3)/\w'.cell? ⟨w.heap.size,1,none⟩=some (.int .i64 y3)) ((refine K8 ?_ d8 r1 r2 al am;exact jq)) ((go_at_call 169;refine (RD _ _ _ _ _ Q R an ap).mono ?_;rintro e w2 ⟨z0,z1,rfl,aq,k0,k1,ez⟩;obtain ⟨W,Y⟩:=aq.cells))
    all_goals
     have EZ:Hid (wv z0 z1=o):=by
      show wv z0 z1=o;have ar:wv z0 z1=Hq (wv T U) (wv x3 y3):=ez;rw [ar,V,S.out]
     clear ez;go_wp2;go_meet
     case rel=>
      have O:Aa wr w2:=jq
      have hw:=(a.1.trans O).size;have au:=a.1.size
      first
       |exact ⟨a.more (O.step_alloc _) (AX.new hw k0 k1 EZ.out _) O.size,(O.trans (Aa.step_alloc (jD _) _)).cell r0⟩
       |exact ⟨a.more ((O.step_set (p:=⟨wr.heap.size,0,none⟩) (jH _) _).step_set (p:=⟨wr.heap.size,1,none⟩) (jH _) _) (AX.stored au ((W _ _ js).trans (by simp;rfl)) ((W _ _ js).trans (by simp;rfl)) ((Y _ _ js).trans js) ((Y _ _ js).trans js) k0 k1 EZ.out) (jH _),((O.step_set (p:=⟨wr.heap.size,0,none⟩) (jH _) _).step_set (p:=⟨wr.heap.size,1,none⟩) (jH _) _).cell r0⟩
   case rest=>
    obtain ⟨l,av⟩:=hcut;obtain ⟨p9,x9,y9,E9,ba,aw,ax,bb,bc,Z,aa,I⟩:=l.2.1 (u9,o) js;simp only at E9 I;subst E9;obtain ⟨p7,x7,y7,E7,ay,J,K,ab,ac,L,M,f⟩:=l.2.1 (.pointer (some ⟨w.heap.size+1+1,0,none⟩),F) js;simp only at f;have az:=jp f;have ad:=jp I;clear f I;simp only [Value.pointer.injEq,Option.some.injEq,Addr.mk.injEq,and_true] at E7;subst E7;have e8:=l.1.cell c8;clear r0 r1 r2 d8;go_wp2_with fail;refine (J7 _ _ _ _ _ Z aa L M).mono ?_;rintro e w3 ⟨AO,rfl,d,n⟩
    have z:Hid (Co (o<F) AO):=by
     show Co _ _;rw [<-az.out,<-ad.out];exact n
    clear n;have bd:=d.cell aw;have be:=d.cell ax;have bf:=d.cell J;have bg:=d.cell K;have bh:=d.frozen J ab;have bi:=d.frozen K ac;have g8:=d.cell e8;have a5:=d.cell av;have A:=l.later d;by_cases hd:k=0\/o<F
    .have N:=jp (m.out hd)
     have a0:((k:Int)==0)=true\/(((k:Int)==0)=false/\AO=true):=by
      by_cases h0:k=0
      .exact Or.inl (by rw [h0];rfl)
      .exact Or.inr ⟨by rw [jI];omega,z.out.2 (hd.resolve_left h0)⟩
     clear m y z;rcases a0 with ae|⟨ae,rfl⟩
     all_goals
      go_wp2;go_roundg (E.length - (k+1))
      case measure=>omega
      case rel=>exact ⟨_,k+1,o,jo,rfl,rfl,by go_num,A.sub3.put (jD _) 2 rfl Z aa ad.out,N.out⟩
    .have h0:k≠0:=fun e=>hd (Or.inl e)
     have af:¬o<F:=fun e=>hd (Or.inr e)
     have N:=jp (y.out jo jo);have ae:((k:Int)==0)=false:=by rw [jI];omega
     have a1:AO=false:=by
      cases AO
      .rfl
      .exact absurd (z.out.1 rfl) af
     subst a1;clear m y z hd af;go_wp2;go_roundg (E.length - (k+1))
     case measure=>omega
     case rel=>exact ⟨_,k+1,F,jo,rfl,rfl,by go_num,A.sub3,N.out⟩
  .obtain rfl:k=E.length:=jo
   obtain ⟨p7,x7,y7,E7,ay,J,K,ab,ac,L,M,f⟩:=a.2.1 (.pointer (some ⟨w.heap.size+1+1,0,none⟩),F) js;simp only at f
   have a2:Hid (Ek E H E.length s (wv x7 y7)):=by
    show Ek _ _ _ _ _;rw [f];exact q.out
   clear f;simp only [Value.pointer.injEq,Option.some.injEq,Addr.mk.injEq,and_true] at E7;subst E7;obtain ⟨p5,x5,y5,E5,ag,a3,a4,bj,bk,bl,bm, -⟩:=a.2.1 (.pointer (some ⟨w.heap.size+1,0,none⟩),0) js;simp only [Value.pointer.injEq,Option.some.injEq,Addr.mk.injEq,and_true] at E5;subst E5;go_wp2_with fail;go_region
   all_goals
    go_wp2;refine bodyPost_ret (v:= .tuple #[.string s,.agg #[.int .i64 x7,.int .i64 y7]]) (by simp [results,Tryz.results115,go_sem,a3,a4]) rfl ⟨s,x7,y7,rfl,?_,L,M,a2.out⟩;exact ((a.1.step_drew).step_set (p:=⟨w.heap.size+1,0,none⟩) ag _).step_set (p:=⟨w.heap.size+1,1,none⟩) ag _
structure ZcV (c:Ac) (B:List BK) (F:List EI) (E:List EN):Prop where
 eq:E.map Fj=F.map (F7 B)
 srt:EV c->IA F/\∀x∈F,0<=x.1/\x.1<18446744073709551616
theorem ZcV.len {c:Ac} {B:List BK} {F:List EI} {E:List EN} (h:ZcV c B F E):E.length=F.length:=by
 have:=congrArg List.length h.eq;simpa using this
theorem ZcV.at {c:Ac} {B:List BK} {F:List EI} {E:List EN} (h:ZcV c B F E) {i:Nat} (b:i<E.length):wv E[i].2.1 E[i].2.2=(F.getD i (0,0)).1/\E[i].1=A7 B (F.getD i (0,0)).2:=by
 have d:=h.len;have a:(E.map Fj)[i]?=(F.map (F7 B))[i]?:=by rw [h.eq]
 rw [List.getElem?_map,List.getElem?_map,jG b,jG jo] at a;simp only [Option.map_some,Option.some.injEq,Fj,F7,Prod.mk.injEq] at a;rw [jV,jG jo];exact a
theorem Wv {c:Ac} {B:List BK} (h:EV c):An c B=[]\/∃letter each,An c B=Dk c.key letter each B:=by
 unfold An;split
 .exact Or.inl rfl
 .right;rcases h with h|h
  .rw [if_neg jo,if_pos h];exact ⟨_,_,rfl⟩
  .rw [if_neg jo,if_neg jo,if_neg jo,if_pos h];exact ⟨_,_,rfl⟩
theorem BU.tabF {c : Ac} {B : List BK} {E : List EN} (h : BU c B E) : ZcV c B (An c B) E := ⟨h, fun a => by
  rcases Wv (B := B) a with b | ⟨letter, each, d⟩
  . rw [b]
    exact ⟨List.Pairwise.nil, fun x hx => by cases hx⟩
  . rw [d]
    exact ⟨NQ _ _, fun x hx => by
      obtain ⟨i, f, k, _, rfl⟩ := ((UG c.key letter each B).1 x).1 hx
      exact He _ _ _ _⟩⟩
theorem OU {c:Ac} {B:List BK} {F:List EI} {E:List EN} {H D:Int} {s:jt} (b:ZcV c B F E) (m:EV c) (v:1<=E.length) (p:BC H) (h:Ek E H E.length s D):
  A8 F H<F.length/\s=A7 B (F.getD (A8 F H) (0,0)).2/\D=((F.getD (A8 F H) (0,0)).1 - H) % 18446744073709551616:=by
 have w:=b.len;obtain ⟨q,r,t⟩:=Vp (b.srt m).1 jo (b.srt m).2 p
 have f:∀i,i<E.length->dE E H i=Gt (F.getD i (0,0)).1 H:=fun i a=>by
  unfold dE;rw [jG a];show Hq _ _=_;rw [(b.at a).1];rfl
 have o:∀i (a:i<F.length),F.getD i (0,0)=F[i]:=fun i a=>by
  rw [jV,jG a];rfl
 rcases h with h|⟨j,k, -,u,hF,g,l⟩
 .omega
 have e:j=A8 F H:=by
  refine Xn (n:=E.length) (d:=dE E H) k jo g l (fun i a=>?_) (fun i a=>?_)
  .rw [f _ jo,f _ a,o i jo];exact r i jo
  .rw [f _ jo,f _ jo,o i jo];exact t i jo a
 subst e;exact ⟨q,by rw [u];exact (b.at k).2,by rw [hF,f _ k];rfl⟩
theorem Vn {c:Ac} {B:List BK} {a:List EI} {k:jt} (b:c.alg=2) (d:0<a.length) (f:A8 a (Al c.key 107 [] k)<a.length):GR c B a k=(A7 B (a.getD (A8 a (Al c.key 107 [] k)) (0,0)).2,0):=by
 unfold GR Dc;rw [if_neg jo,if_neg jo,if_pos b,jV,jG f];rfl
theorem WB {c:Ac} {B:List BK} {a:List EI} {k:jt} (b:c.alg=4) (d:0<a.length) (f:(C9 c a k c.probes.toNat).1<a.length):GR c B a k=(A7 B (a.getD (C9 c a k c.probes.toNat).1 (0,0)).2,0):=by
 unfold GR Dc;rw [if_neg jo,if_pos b,jV,jG f];rfl
theorem SM {c:Ac} {B:List BK} {a:List EI} {k:jt} {m:Nat} (b:c.alg≠2/\c.alg≠4) (d:(m:Int)=Al c.key 107 [] k % a.length) (f:m<a.length):GR c B a k=(A7 B (a.getD m (0,0)).2,0):=by
 have e:(Al c.key 107 [] k % (a.length:Int)).toNat=m:=by rw [<-d];simp
 unfold GR Dc;rw [if_neg jo,if_neg b.2,if_neg b.1,e,jV,jG f];rfl
theorem QL {c:Ac} {B:List BK} {a:List EI} {k:jt} (h:a=[]):GR c B a k=(ByteArray.empty,8):=by
 unfold GR;rw [h];rfl
def Gc (c:Ac) (B:List BK) (a:List EI) (key:jt) (k:Nat) (s:jt) (F:Int):Prop:=k=0\/(F=(C9 c a key k).2/\s=A7 B (a.getD (C9 c a key k).1 (0,0)).2/\(C9 c a key k).1<a.length)
theorem R7 {c:Ac} {E:List EI} {k:jt} {n:Nat} (h:n=0\/((E.getD (A8 E (Al c.key 112 [n] k)) (0,0)).1 - Al c.key 112 [n] k) % 18446744073709551616<(C9 c E k n).2):C9 c E k (n+1)=(A8 E (Al c.key 112 [n] k),((E.getD (A8 E (Al c.key 112 [n] k)) (0,0)).1 - Al c.key 112 [n] k) % 18446744073709551616):=by
 rw [C9];exact if_pos h
theorem YG {c:Ac} {E:List EI} {k:jt} {n:Nat} (h:¬(n=0\/((E.getD (A8 E (Al c.key 112 [n] k)) (0,0)).1 - Al c.key 112 [n] k) % 18446744073709551616<(C9 c E k n).2)):C9 c E k (n+1)=C9 c E k n:=by
 rw [C9];exact if_neg h
theorem Gc.take {c:Ac} {B:List BK} {a:List EI} {key:jt} {k:Nat} {s d:jt} {F D:Int} (h:Gc c B a key k s F) (g:A8 a (Al c.key 112 [k] key)<a.length) (i:d=A7 B (a.getD (A8 a (Al c.key 112 [k] key)) (0,0)).2) (f:D=((a.getD (A8 a (Al c.key 112 [k] key)) (0,0)).1 - Al c.key 112 [k] key) % 18446744073709551616) (l:k=0\/D<F):Gc c B a key (k+1) d D:=by
 have b := R7 (c := c) (E := a) (k := key) (n := k) (by
   rcases h with h | ⟨h, -⟩
   . exact Or.inl h
   . rw [<- f, <- h]; exact l)
 exact Or.inr ⟨by rw [b];exact f,by rw [b];exact i,by rw [b];exact g⟩
theorem Gc.keep {c:Ac} {B:List BK} {a:List EI} {key:jt} {k:Nat} {s:jt} {F D:Int} (h:Gc c B a key k s F) (g:D=((a.getD (A8 a (Al c.key 112 [k] key)) (0,0)).1 - Al c.key 112 [k] key) % 18446744073709551616) (d:k≠0) (m:F<=D):Gc c B a key (k+1) s F:=by
 rcases h with h|⟨f,i,l⟩
 .exact absurd h d
 have b := YG (c := c) (E := a) (k := key) (n := k) (by
   rw [<- g, <- f]
   rintro (h | h)
   . exact d h
   . omega)
 exact Or.inr ⟨by rw [b];exact f,by rw [b];exact i,by rw [b];exact l⟩
theorem O6 (key:jt) (letter:UInt8) (a:jr) (t:jt):BC (Al key letter a t):=He key letter a t
theorem Uv (p:Nat) (c:Ac) (S:Int) (B:List BK) (I:List EI) (E:List EN) (key:jt) (w:jj) (h:Bz w p c S B E) (a9:Dh c S B E) (hI:∀x∈E,Af x.2.1/\Af x.2.2) (bl:key.size<=1099511627000) (ht:ZcV c B I E):
  Calls Tryz.prog 69 #[.pointer (some ⟨p,0,none⟩),.string key] w (EH w (GR c B I key)):=by
 have q:=jp ht;obtain ⟨J,af⟩:∃X,X=GR c B I key:=⟨_,rfl⟩;rw [<-af];have t:=jp af;clear af ht;obtain ⟨u,v⟩:∃X,X=c:=⟨_,rfl⟩;have ba:=jp v.symm;rw [<-v] at q t;have T:Hid (u.key=c.key):=by show u.key=_;rw [v]
 have z:Hid (u.alg=c.alg):=by show u.alg=_;rw [v]
 have al:Hid (u.probes=c.probes):=by show u.probes=_;rw [v]
 have bb:Hid (u.slots=c.slots):=by show u.slots=_;rw [v]
 clear v ba;have h0:=h;obtain ⟨vB,vE,⟨c0,c1,c2,c3,c4,c5⟩,c6,c7,c8,bv,bc⟩:=h;obtain ⟨hc,hg,hB,hE,bw,U⟩:=a9;obtain ⟨k1,k2,k3,k4, -,k5,k6,k7,k8,k9, -, -⟩:=hc;obtain ⟨ao,cap,rfl,bd⟩:=bc.off;obtain ⟨alg,l,a8,d,f,am⟩:=c;simp only at c0 c1 c2 c3 c4 c5 k1 k2 k3 k4 k5 k6 k7 k8 k9 U T z al bb;by_cases ag:E=[]
 .subst ag
  have ah:Hid (J=(ByteArray.empty,8)):=by
   show J=_;rw [t.out];exact QL (jS (by have:=q.out.len;simpa using this.symm))
  obtain ⟨o1,o2⟩:=J;have A:o1=ByteArray.empty:=(Prod.mk.inj ah.out).1;have C:o2=8:=(Prod.mk.inj ah.out).2;subst A C;clear ah t q;go_enter Tryz.func69,Tryz.ntmps69;go_wp2;go_ret2;exact ⟨rfl,jq⟩
 .have ai:1<=E.length:=by
   rcases Nat.lt_or_ge 0 E.length with h|h
   .exact h
   .exact absurd (jS jo) ag
  have bm:((E.length:Int)==0)=false:=by rw [jI];omega
  by_cases K:alg=2
  .subst K
   go_enter Tryz.func69,Tryz.ntmps69
   go_wp2_with fail
   refine (F2 f _ _ k9 (by rw [jY,show (({data:=#[107]}:jt)).size=1 from rfl];omega)).mono ?_
   rintro e R ⟨x,y,rfl,aj,hx,hy,ez⟩
   have EZ:Hid (wv x y=Al u.key 107 [] key):=by
    have L:wv x y=Cs f (⟨#[107]⟩++key):=ez;show wv x y=_;rw [L,T.out];exact Ki f 107 key
   clear ez
   go_wp2_with fail
   refine (PK p _ S B E x y _ (h0.later jq) hE hI hx hy).mono ?_
   rintro e w2 ⟨s,V,W,rfl,be, -, -,n⟩
   have o:Hid (J=(s,0)):=by
    show J=_;rw [EZ.out] at n;obtain ⟨n1,n2,n3⟩:=OU q.out (Or.inl z.out) ai (O6 _ _ _ _) n;rw [t.out,Vn z.out (by have:=q.out.len;omega) n1,n2]
   clear n
   obtain ⟨o1,o2⟩:=J
   have A:o1=s:=(Prod.mk.inj o.out).1
   have C:o2=0:=(Prod.mk.inj o.out).2
   subst A C
   clear o t
   go_wp2
   go_ret2
   exact ⟨rfl,jq⟩
  .by_cases Y:alg=4
   .subst Y
    clear U
    go_enter Tryz.func69,Tryz.ntmps69
    go_wp2
    go_loopg [9,11] d.toNat (fun r b i wr=>∃(s:jt) (k:Nat) (F:Int),r=d.toNat - k/\(k:Int)<=d/\b= .string s/\i= .int .i64 k/\AP w [(.pointer (some ⟨w.heap.size,0,none⟩),F)] wr/\Gc u B I key k s F)
    case atStart=>exact ⟨_,0,0,jo,jo,rfl,rfl,(AP.nil w).more (Aa.step_alloc (jD _) _) (AX.new (jH _) Cd Cd rfl _) (jH _),Or.inl rfl⟩
    case round=>
     obtain ⟨s,k,F,hr,bx,rfl,rfl,M,ab⟩:=hrel
     have G:=jp ab
     clear ab
     have d3:=M.1.cell c3
     have d4:=M.1.cell c4
     by_cases bz:(k:Int)<d
     .go_wp2_with fail
      refine (Ka _ 2 _ jo jo ji).mono ?_
      rintro e R ⟨a,rfl,aj,ha⟩
      have HA:Hid (a=DF k 2):=ha
      have K:a.size=2:=by rw [HA.out,Hm];rfl
      clear ha
      have e4:=aj.cell d4
      go_wp2_with fail
      refine (F2 f _ _ k9 (by simp only [jY,show (({data:=#[112]}:jt)).size=1 from rfl];omega)).mono ?_
      rintro e w2 ⟨x,y,rfl,be,hx,hy,ez⟩
      have EZ:Hid (wv x y=Al u.key 112 [k] key):=by
       have L:wv x y=Cs f ((⟨#[112]⟩++a)++key):=ez;show wv x y=_;rw [L,HA.out,T.out];exact Og f 112 k key
      clear ez
      have b0:Aa wr w2:=jq
      go_wp2_with fail
      refine (PK p _ S B E x y _ (h0.later (M.1.trans jq)) hE hI hx hy).mono ?_
      rintro e w3 ⟨s2,V,W,rfl,bf,an,ap,n⟩
      have H:Hid (A8 I (Al u.key 112 [k] key)<I.length/\s2=A7 B (I.getD (A8 I (Al u.key 112 [k] key)) (0,0)).2/\wv V W=((I.getD (A8 I (Al u.key 112 [k] key)) (0,0)).1 - Al u.key 112 [k] key) % 18446744073709551616):=by
       rw [EZ.out] at n;exact OU q.out (Or.inr z.out) ai (O6 _ _ _ _) n
      clear n
      have bg:Aa wr w3:=jq
      have ac:=M.later bg
      obtain ⟨b1,b2,b3,aq,bn,N,ad,ar,au,av,aw,O⟩:=ac.2.1 (.pointer (some ⟨w.heap.size,0,none⟩),F) js
      simp only at O
      have ax:=jp O
      clear O
      simp only [Value.pointer.injEq,Option.some.injEq,Addr.mk.injEq,and_true] at aq
      subst aq
      have bo:w.heap.size<w3.heap.size:=World.block_lt_of_cell? w3 ⟨w.heap.size,0,none⟩ N
      go_wp2_with fail
      refine (J7 _ _ _ _ _ an ap av aw).mono ?_
      rintro e w4 ⟨AO,rfl,ay,P⟩
      have Z:Hid (Co (wv V W<F) AO):=by
       show Co _ _;rw [<-ax.out];exact P
      clear P
      have Q:Aa w3 w4:=jq
      have bp:=Q.cell N
      have bq:=Q.cell ad
      have br:=Q.frozen N ar
      have bs:=Q.frozen ad au
      have q0:w4.cell? ⟨w3.heap.size,0,none⟩=some (.int .i64 V):=ay.cell js
      have q1:w4.cell? ⟨w3.heap.size,1,none⟩=some (.int .i64 W):=ay.cell js
      have ae:=ac.later Q
      by_cases hd:k=0\/wv V W<F
      .have ak:Hid (Gc u B I key (k+1) s2 (wv V W)):=G.out.take H.out.1 H.out.2.1 H.out.2.2 hd
       have bh:((k:Int)==0)=true\/(((k:Int)==0)=false/\AO=true):=by
        by_cases h0:k=0
        .exact Or.inl (by rw [h0];rfl)
        .exact Or.inr ⟨by rw [jI];omega,Z.out.2 (hd.resolve_left h0)⟩
       clear Z H G
       rcases bh with az|⟨az,rfl⟩
       all_goals
        go_wp2
        go_roundg (d.toNat - (k+1))
        case measure=>omega
        case rel=>exact ⟨_,k+1,wv V W,rfl,jo,rfl,by go_num,ae.put (jD _) 0 rfl an ap rfl,ak.out⟩
      .have h0:k≠0:=fun e=>hd (Or.inl e)
       have a0:F<=wv V W:=by
        rcases Int.lt_or_le (wv V W) F with e|e
        .exact absurd (Or.inr e) hd
        .exact e
       have ak:Hid (Gc u B I key (k+1) s F):=G.out.keep H.out.2.2 h0 a0
       have az:((k:Int)==0)=false:=by rw [jI];omega
       have bi:AO=false:=by
        cases AO
        .rfl
        .have:=Z.out.1 rfl;omega
       subst bi
       clear Z H G hd a0
       go_wp2
       go_roundg (d.toNat - (k+1))
       case measure=>omega
       case rel=>exact ⟨_,k+1,F,rfl,jo,rfl,by go_num,ae,ak.out⟩
     .have o:Hid (J=(s,0)):=by
       show J=_;rcases G.out with h|⟨h1,h2,h3⟩
       .omega
       .have bj:k=u.probes.toNat:=by rw [al.out];omega
        rw [bj] at h2 h3;rw [t.out,WB z.out (by have:=q.out.len;omega) h3,h2]
      obtain ⟨o1,o2⟩:=J
      have A:o1=s:=(Prod.mk.inj o.out).1
      have C:o2=0:=(Prod.mk.inj o.out).2
      subst A C
      clear o t G
      go_wp2
      go_ret2
      exact ⟨rfl,M.1⟩
   .have a1:(E.length:Int)=l:=by
     rcases U (fun h=>by rcases h with h|h;exact K h;exact Y h) with h|h
     .exact absurd h ag
     .exact h
    have bt:(alg==2)=false:=by simpa using K
    have bu:(alg==4)=false:=by simpa using Y
    obtain ⟨g,a2,rfl,a3⟩:=Eb.ids (cap:=cap) bd ai rfl
    have a4:Hid ((E.length:Int)=l):=a1
    clear a1 U
    go_enter Tryz.func69,Tryz.ntmps69
    go_wp2_with fail
    refine (F2 f _ _ k9 (by rw [jY,show (({data:=#[107]}:jt)).size=1 from rfl];omega)).mono ?_
    rintro e R ⟨x,y,rfl,aj,hx,hy,ez⟩
    have EZ:Hid (wv x y=Al u.key 107 [] key):=by
     have L:wv x y=Cs f (⟨#[107]⟩++key):=ez;show wv x y=_;rw [L,T.out];exact Ki f 107 key
    clear ez
    have aa:Aa w (R.alloc (.cells #[.int .i64 x,.int .i64 y] 144)):=jq
    have d8:=aa.cell c8
    have d1:=aa.cell c1
    have a5:=fun j hj=>aa.cell (a3 j hj)
    have q0:(R.alloc (.cells #[.int .i64 x,.int .i64 y] 144)).cell? ⟨R.heap.size,0,none⟩=some (.int .i64 x):=js
    have q1:(R.alloc (.cells #[.int .i64 x,.int .i64 y] 144)).cell? ⟨R.heap.size,1,none⟩=some (.int .i64 y):=js
    go_upto_region 23 with fail
    generalize (R.alloc (.cells #[.int .i64 x,.int .i64 y] 144))=w2 at *
    go_region_held3 (fun w'=>Aa w2 w'/\w'.cell? ⟨p,8,none⟩=some (.slice (some ⟨g,a2,none⟩) E.length cap)/\w'.cell? ⟨p,1,none⟩=some (.int .i64 l)/\w'.cell? ⟨R.heap.size,0,none⟩=some (.int .i64 x)/\w'.cell? ⟨R.heap.size,1,none⟩=some (.int .i64 y)/\∀j,j<E.length->w'.cell? ⟨g,a2+j * 3,none⟩=some (.string (Gg E j))) ((refine NK ?_ d8 d1 q0 q1 a5;exact jq)) ((go_at_call 117;refine (LK _ _ _ _ hx hy jo jo).mono ?_;rintro e w3 ⟨r,rfl,bf,a6⟩;have D:r=wv x y % l:=a6;have bk:0<=r:=(by rw [D];exact Int.emod_nonneg _ jo);have b4:r<l:=(by rw [D];exact Int.emod_lt_of_pos _ jo);obtain ⟨m,rfl⟩:=jM bk;have a7:=jp D;clear a6 D;have hm:m<E.length:=(by have:=a4.out;omega)))
    all_goals
     have o:Hid (J=(Gg E m,0)):=by
      show J=_;have hl:=q.out.len;rw [t.out,SM (m:=m) ⟨by rw [z.out];exact K,by rw [z.out];exact Y⟩ (by rw [<-hl,a4.out,<-EZ.out];exact a7.out) jo,<-(q.out.at hm).2];unfold Gg;rw [jG hm];rfl
     obtain ⟨o1,o2⟩:=J
     have A:o1=Gg E m:=(Prod.mk.inj o.out).1
     have C:o2=0:=(Prod.mk.inj o.out).2
     subst A C
     clear o t a7
     go_wp2
     go_ret2
     exact ⟨rfl,aa.trans jq⟩
end Go.Proofs.YtpapdkhjdelfcaaGreat
