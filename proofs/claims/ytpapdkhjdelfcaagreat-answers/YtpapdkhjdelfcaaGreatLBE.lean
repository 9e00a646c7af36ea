import Derived.Test.YtpapdkhjdelfcaaGreatLBD
namespace Go.Proofs.YtpapdkhjdelfcaaGreat
open Go.RowKit
set_option maxRecDepth 100000
set_option maxHeartbeats 4000000
def FU (c:Ac) (a:Int) (E:List EN) (x:Bool):Prop:=x=true->c.OK/\1<=a/\a<=1073741824/\(¬EV c->E=[]\/(E.length:Int)=c.slots)
theorem FU.no (c:Ac) (a:Int) (E:List EN):FU c a E false:=fun h=>by cases h
theorem NJ (p:Nat) (c:Ac) (s:Int) (B:List BK) (E:List EN) (w:World) (h:Bz w p c s B E) (N:c.Fit) (hB:AL B) (hE:E.length<=140000):
  Calls Tryz.prog 99 #[.pointer (some ⟨p,0,none⟩)] w (Ew w (FU c s E)):=by
 have h0:=h;obtain ⟨vB,vE,⟨c0,c1,c2,c3,c4,c5⟩,c6,c7,c8,O,P⟩:=h;have hm:=Mb c w N;simp only [Ac.cells] at hm
 obtain ⟨ba,a3,rfl,Q⟩:∃ao cap,vB= .slice ao B.length cap/\∀j (hj:j<B.length),∃g,ao=some ⟨g,0,none⟩/\w.cell? ⟨g,j * 2,none⟩=some (.string B[j].1)/\w.cell? ⟨g,j * 2+1,none⟩=some (.int .i64 B[j].2):=by
  rcases O.form with ⟨rfl,rfl⟩|⟨g,cap,rfl,_,_,K⟩
  .exact ⟨_,_,rfl,fun j hj=>by simp at hj⟩
  .exact ⟨_,_,rfl,fun j hj=>⟨g,rfl,K j hj⟩⟩
 obtain ⟨ao,cap,rfl,K⟩:=P.off;clear O P;go_enter Tryz.func99,Tryz.ntmps99;go_wp2_with fail;refine hm.mono ?_;rintro e w1 ⟨ok,rfl,G,R⟩;clear hm;have d6:=G.cell c6;cases ok
 .go_wp2;go_ret;exact ⟨_,rfl,by (repeat (first|exact jD _|assumption|refine jA ?_|refine jB ?_|refine jC ?_|refine Aa.step_set ?_ (by simp <;>omega) _|refine jE ?_ (by assumption))),FU.no _ _ _⟩
 .have o:Hid c.OK:=R.1 rfl;clear R;by_cases ac:s<1
  .go_wp2;go_ret;exact ⟨_,rfl,by (repeat (first|exact jD _|assumption|refine jA ?_|refine jB ?_|refine jC ?_|refine Aa.step_set ?_ (by simp <;>omega) _|refine jE ?_ (by assumption))),FU.no _ _ _⟩
  .by_cases ad:1073741824<s
   .go_wp2;go_ret;exact ⟨_,rfl,by (repeat (first|exact jD _|assumption|refine jA ?_|refine jB ?_|refine jC ?_|refine Aa.step_set ?_ (by simp <;>omega) _|refine jE ?_ (by assumption))),FU.no _ _ _⟩
   .go_wp2_with fail;refine (Jq p c s B E _ (h0.later G)).mono ?_;rintro e L ⟨pb,rfl,ae,A⟩;have a:=G.trans ae;have e0:=a.cell c0;have e2:=a.cell c2;have M:Hid (1<=s/\s<=1073741824):=⟨by omega,by omega⟩;clear d6 ac ad;have af:1<=c.points/\c.points<=3:=⟨o.out.2.2.2.2.2.1,o.out.2.2.2.2.2.2.1⟩;obtain ⟨bb,bc⟩:=af;go_upto_if 42 with fail
    go_cut [6] (fun v6 wc=>L=wc/\∃d:Int,v6= .int .i64 d/\0<=d/\d<=3)
    case first=>
     by_cases S:(c.alg==2)=true
     .go_wp2_with fail;go_meet
      case rel=>exact ⟨rfl,_,rfl,by omega,by omega⟩
     .have ag:(c.alg==2)=false:=by simpa using S
      go_wp2_with fail;go_meet
      case rel=>exact ⟨rfl,_,rfl,by omega,by omega⟩
    case rest=>
     obtain ⟨rfl,d,rfl,ah,ai⟩:=hcut;have f7:=a.cell c7;have f8:=a.cell c8;go_wp2_with fail;go_loopg [4,7] B.length (fun r t i wr=>Aa L wr/\∃(f:Int) (k:Nat),k<=B.length/\r=B.length - k/\t= .int .i64 f/\i= .int .i64 k/\0<=f/\f<=6 * k)
     case atStart=>exact ⟨jD _,0,0,by omega,by omega,rfl,rfl,by omega,by omega⟩
     case round=>
      obtain ⟨l,f,k,hk,hr,rfl,rfl,bd,be⟩:=hrel;by_cases T:k<B.length
      .obtain ⟨gB,rfl,b0,b1⟩:=Q k T;have H:=a.cell b0;have C:=a.cell b1;have aj:=l.cell H;have ak:=l.cell C;have al:=l.cell f7;have am:=l.cell f8;have u:=hB.2 _ (jJ T);have bf:=hB.1;generalize B[k]=bk at *;obtain ⟨an,U⟩:=bk;simp only at aj ak u H C;obtain ⟨-, -,bg,bh⟩:=u;have a4:decide ((k:Int)<(B.length:Int))=true:=jL (by omega);go_wp2_with fail;go_loopg [8,9] E.length (fun r n j wx=>Aa L wx/\∃(m q:Nat),q<=E.length/\r=E.length - q/\n= .int .i64 m/\j= .int .i64 q/\m<=q)
       case atStart=>exact ⟨l,0,0,by omega,by omega,rfl,rfl,by omega⟩
       case round=>
        obtain ⟨b,m,q,hq,ap,rfl,rfl,bi⟩:=hrel;have g7:=b.cell f7;have g8:=b.cell f8;have a5:=b.cell H;have a6:=b.cell C;by_cases y:q<E.length
        .obtain ⟨gE,aq,rfl,s0,s1,s2⟩:=K q y;have D:=(a.trans b).cell s0;generalize E[q]=V at *;obtain ⟨W,X,Y⟩:=V;simp only at D;cases bj:(W.toList==an.toList)
         .go_wp2_with fail;go_quiet (fail);go_wp2_with fail;go_roundg (E.length - (q+1))
          case measure=>omega
          case rel=>exact ⟨by (repeat (first|exact jD _|assumption|refine jA ?_|refine jB ?_|refine jC ?_|refine Aa.step_set ?_ (by simp <;>omega) _|refine jE ?_ (by assumption))),m,q+1,by omega,rfl,rfl,by go_num,by omega⟩
         .go_wp2_with fail;go_quiet (fail);go_wp2_with fail;go_roundg (E.length - (q+1))
          case measure=>omega
          case rel=>exact ⟨by (repeat (first|exact jD _|assumption|refine jA ?_|refine jB ?_|refine jC ?_|refine Aa.step_set ?_ (by simp <;>omega) _|refine jE ?_ (by assumption))),m+1,q+1,by omega,rfl,by go_num,by go_num,by omega⟩
        .have Z:0<=d * U/\d * U<=18:=by
          rcases (show d=0\/d=1\/d=2\/d=3 by omega) with rfl|rfl|rfl|rfl <;>omega
         obtain ⟨a7,a8⟩:=Z
         have bl:m<=140000:=by omega
         go_upto_region 18 with fail
         go_cut [114] (fun v wc=>Aa L wc/\∃x,v= .bool x)
         case first=>
          cases pb
          all_goals cases hn:((m:Int) !=d * U)
          all_goals cases hw:(U==0)
          all_goals by_cases bm:0<m
          all_goals
           go_wp2_with fail
           go_meet
           case rel=>exact ⟨b,_,rfl⟩
         case rest=>
          obtain ⟨F,x,rfl⟩:=hcut
          have z7:=F.cell f7
          have z1:=F.cell C
          cases x
          .go_wp2_with fail
           go_roundg (B.length - (k+1))
           case measure=>omega
           case rel=>exact ⟨by (repeat (first|exact jD _|assumption|refine jA ?_|refine jB ?_|refine jC ?_|refine Aa.step_set ?_ (by simp <;>omega) _|refine jE ?_ (by assumption))),f+U,k+1,by omega,rfl,rfl,by go_num,by omega,by omega⟩
          .go_wp2
           go_ret
           exact ⟨_,rfl,by (repeat (first|exact jD _|assumption|refine jA ?_|refine jB ?_|refine jC ?_|refine Aa.step_set ?_ (by simp <;>omega) _|refine jE ?_ (by assumption))),FU.no _ _ _⟩
      .have z:pb=false->¬EV c:=fun h1 h2=>by rw [A.2 h2] at h1;cases h1
       have bn:=l.cell (a.cell c1);have am:=l.cell f8;have al:=l.cell f7;cases pb
       .have bo:Hid (¬EV c):=z rfl;clear z A;by_cases ht:0<f
        .have ar:decide (0<f)=true:=jL ht;have aa:(f==0)=false:=by rw [jI];omega
         cases I:((E.length:Int)==c.slots)
         .go_wp2_with fail;go_quiet (fail);go_wp2;go_ret;exact ⟨_,rfl,by (repeat (first|exact jD _|assumption|refine jA ?_|refine jB ?_|refine jC ?_|refine Aa.step_set ?_ (by simp <;>omega) _|refine jE ?_ (by assumption))),FU.no _ _ _⟩
         .have J:Hid ((E.length:Int)=c.slots):=beq_iff_eq.1 I;go_wp2_with fail;go_quiet (fail);go_wp2;go_ret;exact ⟨_,rfl,by (repeat (first|exact jD _|assumption|refine jA ?_|refine jB ?_|refine jC ?_|refine Aa.step_set ?_ (by simp <;>omega) _|refine jE ?_ (by assumption))),fun _=>⟨o.out,M.out.1,M.out.2,fun _=>Or.inr J.out⟩⟩
        .have ar:decide (0<f)=false:=jK ht;have aa:(f==0)=true:=by rw [beq_iff_eq];omega
         cases I:((E.length:Int)==0)
         .go_wp2_with fail;go_quiet (fail);go_wp2;go_ret;exact ⟨_,rfl,by (repeat (first|exact jD _|assumption|refine jA ?_|refine jB ?_|refine jC ?_|refine Aa.step_set ?_ (by simp <;>omega) _|refine jE ?_ (by assumption))),FU.no _ _ _⟩
         .have J:Hid (E=[]):=by
           have h1:(E.length:Int)=0:=beq_iff_eq.1 I;exact jS (by omega)
          go_wp2_with fail
          go_quiet (fail)
          go_wp2
          go_ret
          exact ⟨_,rfl,by (repeat (first|exact jD _|assumption|refine jA ?_|refine jB ?_|refine jC ?_|refine Aa.step_set ?_ (by simp <;>omega) _|refine jE ?_ (by assumption))),fun _=>⟨o.out,M.out.1,M.out.2,fun _=>Or.inl J.out⟩⟩
       .have au:Hid (EV c):=A.1 rfl;clear z A;go_wp2_with fail;go_loopg [10] E.length (fun r i wx=>Aa L wx/\∃(j:Nat),r=E.length - j/\i= .int .i64 ((j:Int)+1))
        case atStart=>exact ⟨l,0,by omega,rfl⟩
        case round=>
         obtain ⟨b,j,ap,rfl⟩:=hrel;have g8:=b.cell f8;by_cases y:j+1<E.length
         .obtain ⟨gE,aq,rfl,s0,s1,s2⟩:=K j (by omega);obtain ⟨bp,a9,ab,v0,v1,v2⟩:=K (j+1) y;simp only [Option.some.injEq,Addr.mk.injEq,and_true] at ab;obtain ⟨rfl,rfl⟩:=ab;have D:=(a.trans b).cell s0;have av:=(a.trans b).cell s1;have aw:=(a.trans b).cell s2;have ax:=(a.trans b).cell v0;have ay:=(a.trans b).cell v1;have az:=(a.trans b).cell v2;have Z:p<wr.heap.size:=jF g8;have bq:gE<wr.heap.size:=jF D;clear K Q s0 s1 s2 v0 v1 v2;generalize E[j]=V at *;obtain ⟨W,X,Y⟩:=V;generalize E[j+1]=V at *;obtain ⟨br,a0,a1⟩:=V;simp only at D av aw ax ay az;go_wp2_with fail;refine (LR X Y a0 a1 _).mono ?_;rintro e w5 ⟨AO,rfl,a2, -⟩;obtain ⟨bs,bt⟩:=a2.cellsTo (wr.heap.size+1+1) (by simp);go_upto_region 29 with fail
          go_cut [198] (fun v wc=>Aa L wc/\∃x,v= .bool x)
          case first=>
           cases AO
           .go_wp2_with fail
            all_goals
             go_meet
             case rel=>exact ⟨by (repeat (first|exact jD _|assumption|refine jA ?_|refine jB ?_|refine jC ?_|refine Aa.step_set ?_ (by simp <;>omega) _|refine jE ?_ (by assumption))),_,rfl⟩
           .go_wp2_with fail;go_meet
            case rel=>exact ⟨by (repeat (first|exact jD _|assumption|refine jA ?_|refine jB ?_|refine jC ?_|refine Aa.step_set ?_ (by simp <;>omega) _|refine jE ?_ (by assumption))),_,rfl⟩
          case rest=>
           obtain ⟨F,x,rfl⟩:=hcut;cases x
           .go_wp2_with fail;go_roundg (E.length - (j+1))
            case measure=>omega
            case rel=>exact ⟨F,j+1,rfl,by go_num⟩
           .go_wp2;go_ret;exact ⟨_,rfl,by (repeat (first|exact jD _|assumption|refine jA ?_|refine jB ?_|refine jC ?_|refine Aa.step_set ?_ (by simp <;>omega) _|refine jE ?_ (by assumption))),FU.no _ _ _⟩
         .go_wp2;go_ret;exact ⟨_,rfl,by (repeat (first|exact jD _|assumption|refine jA ?_|refine jB ?_|refine jC ?_|refine Aa.step_set ?_ (by simp <;>omega) _|refine jE ?_ (by assumption))),fun _=>⟨o.out,M.out.1,M.out.2,fun h=>absurd au.out h⟩⟩
def BR (w:World) (b:Nat) (a:List Value):Prop:=∀j v,a[j]?=some v->w.cell? ⟨b,j,none⟩=some v/\w.frozen? ⟨b,j,none⟩=false
theorem BR.but {p:Nat} {a w:World} {b:Nat} {d:List Value} (h:BR a b d) (k:Ar p a w) (f:b≠p):BR w b d:=fun j v c=>⟨k.cell (h j v c).1 f,k.frozen (h j v c).1 (h j v c).2 f⟩
theorem BR.later {a w:World} {b:Nat} {d:List Value} (h:BR a b d) (k:Aa a w):BR w b d:=fun j v c=>⟨k.cell (h j v c).1,k.frozen (h j v c).1 (h j v c).2⟩
theorem BR.set {w:World} {b:Nat} {f:List Value} (h:BR w b f) (i:Nat) (u:Value):BR (w.setCell ⟨b,i,none⟩ u) b (f.set i u):=by
 intro j v a;rw [List.getElem?_set] at a;by_cases c:i=j
 .subst c;rw [if_pos rfl] at a;split at a
  .rename_i g;simp at a;subst a;have d:=h i f[i] (by simp [g]);exact ⟨Bc d.1,by rw [Ag];exact d.2⟩
  .cases a
 .rw [if_neg c] at a;have d:=h j v a;exact ⟨by rw [Ad (Or.inr c)];exact d.1,by rw [Ag];exact d.2⟩
theorem BR.other {w:World} {b q o:Nat} {a:List Value} {u:Value} (h:BR w b a) (d:q≠b):BR (w.setCell ⟨q,o,none⟩ u) b a:=fun j v c=>⟨by rw [Ad (Or.inl d)];exact (h j v c).1,by rw [Ag];exact (h j v c).2⟩
theorem BR.alloc (w:World) (a:List Value) (t:TypeId):BR (w.alloc (.cells a.toArray t)) w.heap.size a:=by
 intro j v b;refine ⟨?_,js⟩;rw [cell_of_row _ w.heap.size j a.toArray t (0,0) (heap_alloc_new w _)];simpa using b
theorem BR.lt {w:World} {b:Nat} {a:List Value} (h:BR w b a) (c:0<a.length):b<w.heap.size:=World.block_lt_of_cell? w ⟨b,0,none⟩ (h 0 a[0] (by simp [c])).1
theorem Am.set_x {w:World} {v:Value} {L:List BK} {q i:Nat} {u:Value} {z:Int} (h:Am w v L) (f:w.cell? ⟨q,0,none⟩=some (.int .i64 z)):Am (w.setCell ⟨q,i,none⟩ u) v L:=by
 rcases h with h|⟨g,cap,k,l,m,d⟩
 .exact Or.inl h
 .refine Or.inr ⟨g,cap,k,l,by simpa using m,fun j x b=>?_⟩
  have n:0<L.length:=by
   rcases Nat.eq_zero_or_pos L.length with a|a
   .rw [jS a] at b;simp [AC] at b
   .exact a
  have a:=d _ _ (JU L 0 n).1;simp only [Nat.zero_mul] at a;have c:q≠g:=fun e=>by subst e;rw [f] at a;cases a
  rw [Ad (Or.inl c)];exact d j x b
theorem Cl.set_x {w:World} {v:Value} {L:List EN} {q i:Nat} {u:Value} {z:Int} (h:Cl w v L) (f:w.cell? ⟨q,0,none⟩=some (.int .i64 z)):Cl (w.setCell ⟨q,i,none⟩ u) v L:=by
 rcases h with h|⟨g,cap,k,l,m,d⟩
 .exact Or.inl h
 .refine Or.inr ⟨g,cap,k,l,by simpa using m,fun j x b=>?_⟩
  have n:0<L.length:=by
   rcases Nat.eq_zero_or_pos L.length with a|a
   .rw [jS a] at b;simp [Av] at b
   .exact a
  have a:=d _ _ (Ig L 0 n).1;simp only [Nat.zero_mul] at a;have c:q≠g:=fun e=>by subst e;rw [f] at a;cases a
  rw [Ad (Or.inl c)];exact d j x b
theorem Bz.of_blk {w:World} {p:Nat} {c:Ac} {a:Int} {b d:Value} {B:List BK} {E:List EN} (h:BR w p [.int .i64 c.alg,.int .i64 c.slots,.int .i64 c.points,.int .i64 c.probes,.string c.key,.int .i64 c.formats,.int .i64 a,b,d]) (f:Am w b B) (g:Cl w d E):Bz w p c a B E:=
 ⟨b,d,⟨(h 0 _ rfl).1,(h 1 _ rfl).1,(h 2 _ rfl).1,(h 3 _ rfl).1,(h 4 _ rfl).1,(h 5 _ rfl).1⟩,(h 6 _ rfl).1,(h 7 _ rfl).1,(h 8 _ rfl).1,f,g⟩
def CL (base:Nat) (w:World) (p:Nat) (c:Ac) (a:Int) (B:List BK) (E:List EN):Prop:=∃b d,
 ((w.cell? ⟨p, 0, none⟩ = some (.int .i64 c.alg) /\ w.cell? ⟨p, 1, none⟩ = some (.int .i64 c.slots) /\ w.cell? ⟨p, 2, none⟩ = some (.int .i64 c.points) /\ w.cell? ⟨p, 3, none⟩ = some (.int .i64 c.probes) /\ w.cell? ⟨p, 4, none⟩ = some (.string c.key) /\ w.cell? ⟨p, 5, none⟩ = some (.int .i64 c.formats)) /\
 w.cell? ⟨p, 6, none⟩ = some (.int .i64 a) /\ w.cell? ⟨p, 7, none⟩ = some b /\ w.cell? ⟨p, 8, none⟩ = some d /\ Am w b B /\ Cl w d E) /\ base <= p /\ (∀ g, b.ownBlock = some g -> base <= g) /\ ∀ g, d.ownBlock = some g -> base <= g
theorem CL.state {base:Nat} {w:World} {p:Nat} {c:Ac} {a:Int} {B:List BK} {E:List EN} (h:CL base w p c a B E):Bz w p c a B E:=by
 obtain ⟨b,d,f, -⟩:=h;exact ⟨b,d,f⟩
theorem CL.later {base:Nat} {a w:World} {p:Nat} {c:Ac} {b:Int} {B:List BK} {E:List EN} (h:CL base a p c b B E) (k:Aa a w):CL base w p c b B E:=by
 obtain ⟨f,g,⟨⟨i,l,m,n,o,q⟩,s,t,u,v,d⟩,r⟩:=h;exact ⟨f,g,⟨⟨k.cell i,k.cell l,k.cell m,k.cell n,k.cell o,k.cell q⟩,k.cell s,k.cell t,k.cell u,v.later k,d.later k⟩,r⟩
theorem CL.of_blk {base:Nat} {w:World} {p:Nat} {c:Ac} {a:Int} {b d:Value} {B:List BK} {E:List EN} (h:BR w p [.int .i64 c.alg,.int .i64 c.slots,.int .i64 c.points,.int .i64 c.probes,.string c.key,.int .i64 c.formats,.int .i64 a,b,d]) (f:Am w b B) (i:Cl w d E) (k:base<=p) (l:∀g,b.ownBlock=some g->base<=g) (m:∀g,d.ownBlock=some g->base<=g):CL base w p c a B E:=
 ⟨b,d,⟨⟨(h 0 _ rfl).1,(h 1 _ rfl).1,(h 2 _ rfl).1,(h 3 _ rfl).1,(h 4 _ rfl).1,(h 5 _ rfl).1⟩,(h 6 _ rfl).1,(h 7 _ rfl).1,(h 8 _ rfl).1,f,i⟩,k,l,m⟩
def Ft (w:World) (e:Ending) (w':World):Prop:=∃(v:Value) (f:Int) (b:Bool),e= .returned (.tuple #[v,.int .i64 f,.bool b])/\Aa w w'/\
 (b=true->∃(p:Nat) (c:Ac) (a:Int) (B:List BK) (E:List EN),v= .pointer (some ⟨p,0,none⟩)/\w.heap.size<=p/\CL w.heap.size w' p c a B E/\Dh c a B E/\(∀x∈E,Af x.2.1/\Af x.2.2)/\1<=a/\a<=1073741824/\c.formats=3/\E.length<=65535)
theorem Ft.no {w w':World} (h:Aa w w') (f:Int):Ft w (.returned (.tuple #[.pointer none,.int .i64 f,.bool false])) w':=⟨_,_,_,rfl,h,fun h=>by cases h⟩
theorem L7 (s:ByteArray) (w:World) (hs:s.size<=1099511627776):
  Calls Tryz.prog 53 #[.string s] w (Ft w):=by
 go_enter Tryz.func53,Tryz.ntmps53;go_wp2_with fail;refine (KD s _ hs).mono ?_;rintro e w1 ⟨a,ok,rfl,ai,ha, -⟩;cases ok
 .go_wp2;go_ret3;exact Ft.no ai _
 .go_upto_region 5 with fail
  have bd:Aq (w1.alloc (.cells #[.string a,.bool false] 128)) w1.heap.size a false:=⟨js,js,js,js⟩;have be:Aa w (w1.alloc (.cells #[.string a,.bool false] 128)):=ai.step_alloc _;have r:w.heap.size<=w1.heap.size:=ai.size;have bf:w1.heap.size<(w1.alloc (.cells #[.string a,.bool false] 128)).heap.size:=js
  generalize w1.heap.size=C at *;generalize w1.alloc (.cells #[.string a,.bool false] 128)=W0 at *;clear ai;go_wp2_with fail;refine (Jr C 2 a false _ ji ji (by unfold maxLen;omega) bd).mono ?_;rintro e W1 ⟨v1,s1,ce,rfl,a3,bg,h,rfl,g1, -, -, -⟩;have bh:=a3.bel be r;go_wp2_with fail;refine (C7 C 1 s1 ce _ ji ji (by unfold maxLen;omega) bg).mono ?_;rintro e W2 ⟨v2,s2,cf,rfl,a4,aj,z,rfl,g2,f0,f1, -⟩;have db:z<256:=by simpa using f1
  clear f1;have X:=a4.bel bh r;have cg:C<W2.heap.size:=jN bf (jX a3.size a4.size);clear a3 a4 bd bg be bh;go_upto_region 8 with fail
  have bi:BR (W2.alloc (.cells #[.int .i64 0,.int .i64 0,.int .i64 0,.int .i64 0,.string ⟨#[]⟩,.int .i64 0,.int .i64 0,.slice none 0 0,.slice none 0 0] 85)) W2.heap.size [.int .i64 0,.int .i64 0,.int .i64 0,.int .i64 0,.string ⟨#[]⟩,.int .i64 0,.int .i64 0,.slice none 0 0,.slice none 0 0]:=BR.alloc _ _ _;replace aj:=aj.later (Aa.step_alloc (jD _) (.cells #[.int .i64 0,.int .i64 0,.int .i64 0,.int .i64 0,.string ⟨#[]⟩,.int .i64 0,.int .i64 0,.slice none 0 0,.slice none 0 0] 85));have E:w.heap.size<=W2.heap.size:=X.size;have am:W2.heap.size<(W2.alloc (.cells #[.int .i64 0,.int .i64 0,.int .i64 0,.int .i64 0,.string ⟨#[]⟩,.int .i64 0,.int .i64 0,.slice none 0 0,.slice none 0 0] 85)).heap.size:=js
  replace X:=X.step_alloc (.cells #[.int .i64 0,.int .i64 0,.int .i64 0,.int .i64 0,.string ⟨#[]⟩,.int .i64 0,.int .i64 0,.slice none 0 0,.slice none 0 0] 85);have t:W2.heap.size≠C:=jo
  generalize W2.heap.size=f at *;generalize W2.alloc (.cells #[.int .i64 0,.int .i64 0,.int .i64 0,.int .i64 0,.string ⟨#[]⟩,.int .i64 0,.int .i64 0,.slice none 0 0,.slice none 0 0] 85)=X0 at *;have F:=bi;have H:=aj;have I:=X;have q:=am;clear bi aj X am;go_wp2_with fail;refine (C7 C 1 s2 cf _ ji ji (by unfold maxLen;omega) H).mono ?_;rintro e X1 ⟨v,r1,q1,rfl,m,u,alg,rfl,z1,c2,an, -⟩;have c3:alg<256:=by simpa using an
  clear an;have k:=F.but m t;have Y:=(k 0 _ rfl).1;have Z:=(k 0 _ rfl).2;have y:=m.bel I r;have l:f<X1.heap.size:=jN q m.size;clear F H I m q;have F:BR (X1.setCell ⟨f,0,none⟩ (.int .i64 alg)) f [.int .i64 alg,.int .i64 0,.int .i64 0,.int .i64 0,.string ⟨#[]⟩,.int .i64 0,.int .i64 0,.slice none 0 0,.slice none 0 0]:=k.set 0 _;have H:Aq (X1.setCell ⟨f,0,none⟩ (.int .i64 alg)) C r1 q1:=u.other t;have I:Aa w (X1.setCell ⟨f,0,none⟩ (.int .i64 alg)):=y.step_set (p:=⟨f,0,none⟩) E _;have q:f<(X1.setCell ⟨f,0,none⟩ (.int .i64 alg)).heap.size:=by simpa using l
  go_upto_region 9 with fail
  clear k u y l Y Z;generalize X1.setCell ⟨f,0,none⟩ (.int .i64 alg)=Y1 at *;go_wp2_with fail;refine (C7 C 4 r1 q1 _ ji ji (by unfold maxLen;omega) H).mono ?_;rintro e X2 ⟨v,r2,q2,rfl,m,u,o,rfl,z2,c4,ap, -⟩;have c5:o<4294967296:=by simpa using ap
  clear ap;have k:=F.but m t;have Y:=(k 6 _ rfl).1;have Z:=(k 6 _ rfl).2;have y:=m.bel I r;have l:f<X2.heap.size:=jN q m.size;clear F H I m q;have F:BR (X2.setCell ⟨f,6,none⟩ (.int .i64 o)) f [.int .i64 alg,.int .i64 0,.int .i64 0,.int .i64 0,.string ⟨#[]⟩,.int .i64 0,.int .i64 o,.slice none 0 0,.slice none 0 0]:=k.set 6 _;have H:Aq (X2.setCell ⟨f,6,none⟩ (.int .i64 o)) C r2 q2:=u.other t;have I:Aa w (X2.setCell ⟨f,6,none⟩ (.int .i64 o)):=y.step_set (p:=⟨f,6,none⟩) E _;have q:f<(X2.setCell ⟨f,6,none⟩ (.int .i64 o)).heap.size:=by simpa using l
  go_upto_region 10 with fail
  clear k u y l Y Z;generalize X2.setCell ⟨f,6,none⟩ (.int .i64 o)=Y2 at *;go_wp2_with fail;refine (C7 C 2 r2 q2 _ ji ji (by unfold maxLen;omega) H).mono ?_;rintro e X3 ⟨v,r3,q3,rfl,m,u,i,rfl,z3,cc,T, -⟩;have cd:i<65536:=by simpa using T
  clear T;have k:=F.but m t;have Y:=(k 1 _ rfl).1;have Z:=(k 1 _ rfl).2;have y:=m.bel I r;have l:f<X3.heap.size:=jN q m.size;clear F H I m q;have F:BR (X3.setCell ⟨f,1,none⟩ (.int .i64 i)) f [.int .i64 alg,.int .i64 i,.int .i64 0,.int .i64 0,.string ⟨#[]⟩,.int .i64 0,.int .i64 o,.slice none 0 0,.slice none 0 0]:=k.set 1 _;have H:Aq (X3.setCell ⟨f,1,none⟩ (.int .i64 i)) C r3 q3:=u.other t;have I:Aa w (X3.setCell ⟨f,1,none⟩ (.int .i64 i)):=y.step_set (p:=⟨f,1,none⟩) E _;have q:f<(X3.setCell ⟨f,1,none⟩ (.int .i64 i)).heap.size:=by simpa using l
  go_upto_region 11 with fail
  clear k u y l Y Z;generalize X3.setCell ⟨f,1,none⟩ (.int .i64 i)=Y3 at *;go_wp2_with fail;refine (C7 C 1 r3 q3 _ ji ji (by unfold maxLen;omega) H).mono ?_;rintro e X4 ⟨v,r4,q4,rfl,m,u,c,rfl,z4,bj,N, -⟩;have bk:c<256:=by simpa using N
  clear N;have k:=F.but m t;have Y:=(k 2 _ rfl).1;have Z:=(k 2 _ rfl).2;have y:=m.bel I r;have l:f<X4.heap.size:=jN q m.size;clear F H I m q;have F:BR (X4.setCell ⟨f,2,none⟩ (.int .i64 c)) f [.int .i64 alg,.int .i64 i,.int .i64 c,.int .i64 0,.string ⟨#[]⟩,.int .i64 0,.int .i64 o,.slice none 0 0,.slice none 0 0]:=k.set 2 _;have H:Aq (X4.setCell ⟨f,2,none⟩ (.int .i64 c)) C r4 q4:=u.other t;have I:Aa w (X4.setCell ⟨f,2,none⟩ (.int .i64 c)):=y.step_set (p:=⟨f,2,none⟩) E _;have q:f<(X4.setCell ⟨f,2,none⟩ (.int .i64 c)).heap.size:=by simpa using l
  go_upto_region 12 with fail
  clear k u y l Y Z;generalize X4.setCell ⟨f,2,none⟩ (.int .i64 c)=Y4 at *;go_wp2_with fail;refine (C7 C 1 r4 q4 _ ji ji (by unfold maxLen;omega) H).mono ?_;rintro e X5 ⟨v,r5,q5,rfl,m,u,d,rfl,z5,bl,O, -⟩;have bm:d<256:=by simpa using O
  clear O;have k:=F.but m t;have Y:=(k 3 _ rfl).1;have Z:=(k 3 _ rfl).2;have y:=m.bel I r;have l:f<X5.heap.size:=jN q m.size;clear F H I m q;have F:BR (X5.setCell ⟨f,3,none⟩ (.int .i64 d)) f [.int .i64 alg,.int .i64 i,.int .i64 c,.int .i64 d,.string ⟨#[]⟩,.int .i64 0,.int .i64 o,.slice none 0 0,.slice none 0 0]:=k.set 3 _;have H:Aq (X5.setCell ⟨f,3,none⟩ (.int .i64 d)) C r5 q5:=u.other t;have I:Aa w (X5.setCell ⟨f,3,none⟩ (.int .i64 d)):=y.step_set (p:=⟨f,3,none⟩) E _;have q:f<(X5.setCell ⟨f,3,none⟩ (.int .i64 d)).heap.size:=by simpa using l
  go_upto_region 13 with fail
  clear k u y l Y Z;generalize X5.setCell ⟨f,3,none⟩ (.int .i64 d)=Y5 at *;go_wp2_with fail;refine (Jr C 16 r5 q5 _ ji ji (by unfold maxLen;omega) H).mono ?_;rintro e X6 ⟨v,r6,q6,rfl,m,u,key,rfl,z6,c6, -, -⟩;have k:=F.but m t;have Y:=(k 4 _ rfl).1;have Z:=(k 4 _ rfl).2;have y:=m.bel I r;have l:f<X6.heap.size:=jN q m.size;clear F H I m q;have F:BR (X6.setCell ⟨f,4,none⟩ (.string key)) f [.int .i64 alg,.int .i64 i,.int .i64 c,.int .i64 d,.string key,.int .i64 0,.int .i64 o,.slice none 0 0,.slice none 0 0]:=k.set 4 _;have H:Aq (X6.setCell ⟨f,4,none⟩ (.string key)) C r6 q6:=u.other t;have I:Aa w (X6.setCell ⟨f,4,none⟩ (.string key)):=y.step_set (p:=⟨f,4,none⟩) E _;have q:f<(X6.setCell ⟨f,4,none⟩ (.string key)).heap.size:=by simpa using l
  go_upto_region 14 with fail
  clear k u y l Y Z;generalize X6.setCell ⟨f,4,none⟩ (.string key)=Y6 at *;have ch:=(F 5 _ rfl).1;have ci:=(F 5 _ rfl).2;go_wp2_with fail;have bn:BR (Y6.setCell ⟨f,5,none⟩ (.int .i64 3)) f [.int .i64 alg,.int .i64 i,.int .i64 c,.int .i64 d,.string key,.int .i64 3,.int .i64 o,.slice none 0 0,.slice none 0 0]:=F.set 5 _;have a5:Aq (Y6.setCell ⟨f,5,none⟩ (.int .i64 3)) C r6 q6:=H.other t;have a6:Aa w (Y6.setCell ⟨f,5,none⟩ (.int .i64 3)):=I.step_set (p:=⟨f,5,none⟩) E _;have bo:f<(Y6.setCell ⟨f,5,none⟩ (.int .i64 3)).heap.size:=by simpa using q
  have aq:C<(Y6.setCell ⟨f,5,none⟩ (.int .i64 3)).heap.size:=World.block_lt_of_cell? _ _ a5.1;clear F H I q ch ci;generalize Y6.setCell ⟨f,5,none⟩ (.int .i64 3)=Z0 at *;refine (OB C r6 q6 _ (by unfold maxLen;omega) a5 aq).mono ?_;rintro e Z1 ⟨vB,L,cj,s7,bp,rfl,m,bq,dc,a7,br,aa,ar⟩;have ab:=bn.but m t;have bs:=m.bel a6 r;have a8:∀g,vB.ownBlock=some g->g≠C:=fun g hg=>by have:=aa g hg;omega
  have ck:Hid (∀g,vB.ownBlock=some g->w.heap.size<=g):=fun g hg=>jX a6.size (aa g hg)
  have bt:f<Z1.heap.size:=jN bo m.size;have cl:=(ab 7 _ rfl).1;have cm:=(ab 7 _ rfl).2;clear bn a5 a6 m aa bo aq;have bu:BR (Z1.setCell ⟨f,7,none⟩ vB) f [.int .i64 alg,.int .i64 i,.int .i64 c,.int .i64 d,.string key,.int .i64 3,.int .i64 o,vB,.slice none 0 0]:=ab.set 7 _;have bv:Aq (Z1.setCell ⟨f,7,none⟩ vB) C s7 bp:=bq.other t;have bw:Aa w (Z1.setCell ⟨f,7,none⟩ vB):=bs.step_set (p:=⟨f,7,none⟩) E _;have bx:f<(Z1.setCell ⟨f,7,none⟩ vB).heap.size:=by simpa using bt
  have au:Am (Z1.setCell ⟨f,7,none⟩ vB) vB L:=a7.set_x (ab 0 _ rfl).1
  obtain ⟨U,J,cn⟩:∃ao cap,vB= .slice ao L.length cap:=by
   rcases a7.form with ⟨h1,h2⟩|⟨g,cap,h1,_⟩
   .subst h2;exact ⟨none,0,h1⟩
   .exact ⟨_,_,h1⟩
  subst cn;go_upto_region 17 with fail
  clear ab bq bs bt cl cm a7;generalize Z1.setCell ⟨f,7,none⟩ (.slice U L.length J)=Z2 at *;go_wp2_with fail;refine (C7 C 2 s7 bp _ ji ji (by unfold maxLen;omega) bv).mono ?_;rintro e Z3 ⟨v,s8,co,rfl,m,cp,n,rfl,dd,n0,n1, -⟩;have n2:n<65536:=by simpa using n1
  clear n1;have a9:=bu.but m t;have Q:=m.bel bw r;have ac:=au.but m a8;have bz:f<Z3.heap.size:=jN bx m.size;clear bu bv bw m au bx;obtain ⟨av,aw,ax,ay⟩:=cp;cases cj
  .go_wp2;go_ret3;exact Ft.no Q _
  obtain ⟨c7,b0⟩:=ar rfl;clear ar;cases co
  rotate_left
  .go_wp2;go_ret3;exact Ft.no Q _
  cases cq:(h.toList==[67,72])
  .go_wp2;go_ret3;exact Ft.no Q _
  by_cases c8:z<1
  .go_wp2;go_ret3;exact Ft.no Q _
  by_cases c9:2<z
  .go_wp2;go_ret3;exact Ft.no Q _
  have az:Bz Z3 f ⟨alg,i,c,d,key,3⟩ o L []:=Bz.of_blk a9 ac (Or.inl ⟨rfl,rfl,rfl⟩);go_wp2_with fail;refine (Jq f _ _ _ _ _ az).mono ?_;rintro e Z4 ⟨pb,rfl,V, -⟩;have ak:=Aq.later ⟨av,aw,ax,ay⟩ V;have ba:=a9.later V;have P:=ac.later V;have W:=Q.trans V;have cr:f<Z4.heap.size:=jN bz V.size;have ad:C<Z4.heap.size:=World.block_lt_of_cell? _ _ ak.1;clear av aw ax ay a9 ac Q bz az V;obtain ⟨nn,rfl⟩:=jM n0;have al:Hid (∀g,(Value.slice U L.length J).ownBlock=some g->g≠C):=a8;clear a8 cq n0;have n3:nn<=65535:=jo
  clear n2;have cs:Hid (Aa w Z4):=W;go_upto_if 105 with fail
  go_cut [14,6] (fun ct v6 wc=>∃(D:List EN) (R:Bool),v6= .bool R/\Dz w.heap.size wc ct D/\D.length<=65535/\(∀x∈D,DZ L x)/\BR wc f [.int .i64 alg,.int .i64 i,.int .i64 c,.int .i64 d,.string key,.int .i64 3,.int .i64 o,.slice U L.length J,.slice none 0 0]/\Am wc (.slice U L.length J) L/\Aa w wc)
  case first=>
   by_cases b1:z=1
   .subst b1;go_wp2_with fail;refine (OJ C nn pb _ L s8 false _ (by unfold maxLen;omega) ak ad n3 P br al.out).mono ?_;rintro e Z5 ⟨vE,D,R,s9,cu,rfl,m,b2,cv,G,ae,B⟩;go_wp2_with fail;go_meet
    case rel=>exact ⟨D,R,rfl,⟨G.1,fun g hg=>jX W.size (G.2 g hg)⟩,jo,B,ba.but m t,P.but m al.out,m.bel W r⟩
   .have da:(z==1)=false:=by simpa using b1
    go_wp2_with fail;refine (Wa C nn pb _ L s8 false _ jo ak ad n3 P br al.out).mono ?_;rintro e Z5 ⟨vE,D,R,s9,cu,rfl,m,b2,cv,G,ae,B⟩;go_wp2_with fail;go_meet
    case rel=>exact ⟨D,R,rfl,⟨G.1,fun g hg=>jX W.size (G.2 g hg)⟩,jo,B,ba.but m t,P.but m al.out,m.bel W r⟩
  case rest=>
   obtain ⟨D,R,rfl,G,ae,B,K,af,a0⟩:=hcut;clear ak ba P W cr ad cs
   obtain ⟨M,A,cw⟩:∃ao cap,u14= .slice ao D.length cap:=by
    obtain ⟨ao,cap,hv,_⟩:=G.1.off;exact ⟨ao,cap,hv⟩
   subst cw;have cx:=(K 8 _ rfl).1;have cy:=(K 8 _ rfl).2;have ag:BR (wc.setCell ⟨f,8,none⟩ (.slice M D.length A)) f [.int .i64 alg,.int .i64 i,.int .i64 c,.int .i64 d,.string key,.int .i64 3,.int .i64 o,.slice U L.length J,.slice M D.length A]:=K.set 8 _;have a1:Aa w (wc.setCell ⟨f,8,none⟩ (.slice M D.length A)):=a0.step_set (p:=⟨f,8,none⟩) E _;have S:Am (wc.setCell ⟨f,8,none⟩ (.slice M D.length A)) (.slice U L.length J) L:=af.set_x (K 0 _ rfl).1;have ah:Cl (wc.setCell ⟨f,8,none⟩ (.slice M D.length A)) (.slice M D.length A) D:=G.1.set_x (K 0 _ rfl).1;have b3:Bz (wc.setCell ⟨f,8,none⟩ (.slice M D.length A)) f ⟨alg,i,c,d,key,3⟩ o L D:=Bz.of_blk ag S ah;have b4:Hid (CL w.heap.size (wc.setCell ⟨f,8,none⟩ (.slice M D.length A)) f ⟨alg,i,c,d,key,3⟩ o L D):=CL.of_blk ag S ah E ck.out G.2;go_upto_region 26 with fail
   clear K af a0 G cx cy ag S ah;generalize wc.setCell ⟨f,8,none⟩ (.slice M D.length A)=V0 at *;cases R
   .go_wp2;go_ret3;exact Ft.no a1 _
   .go_wp2_with fail;have b5:Ac.Fit ⟨alg,i,c,d,key,3⟩:=⟨⟨jv,jv⟩,⟨jv,jv⟩,⟨jv,jv⟩,⟨jv,jv⟩,⟨jv,jv⟩,by simp only;unfold maxLen;omega⟩;refine (NJ f _ _ _ _ _ b3 b5 b0 jo).mono ?_;rintro e V1 ⟨cz,rfl,bb,b6⟩;have a2:=a1.trans bb;cases cz
    .go_wp2;go_ret3;exact Ft.no a2 _
    .obtain ⟨b7,c0,c1,b8⟩:=b6 rfl;clear b6;have b9:Dh ⟨alg,i,c,d,key,3⟩ o L D:=⟨b7,⟨jo,jo⟩,b0,jo,fun x hx=>(B x hx).1,b8⟩;have bc:∀x∈D,Af x.2.1/\Af x.2.2:=fun x hx=>(B x hx).2
     have ca:Hid (Dh ⟨alg,i,c,d,key,3⟩ o L D):=b9;clear b7 b8 b9;go_wp2_with fail;refine (Fw f _ _ _ _ z _ (b3.later bb) ca.out ⟨jo,jo⟩ (fun x hx=>⟨(bc x hx).1.i64,(bc x hx).2.i64⟩)).mono ?_;rintro e V2 ⟨b,rfl,cb, -⟩;go_wp2;go_ret3;exact ⟨_,_,_,rfl,a2.trans cb,fun _=>⟨f,_,o,L,D,rfl,E,(b4.out.later bb).later cb,ca.out,bc,c0,c1,rfl,ae⟩⟩
end Go.Proofs.YtpapdkhjdelfcaaGreat
