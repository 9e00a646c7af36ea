import Derived.Test.YtpapdkhjdelfcabGreatLBF
namespace Go.Proofs.YtpapdkhjdelfcabGreat
open Go.RowKit
set_option maxRecDepth 100000
set_option maxHeartbeats 4000000
def FU (c:Ac) (gen:Int) (E:List EN) (x:Bool):Prop:=x=true→c.OK∧1≤gen∧gen≤1073741824∧(¬EV c→E=[]∨(E.length:Int)=c.slots)
theorem FU.no (c:Ac) (gen:Int) (E:List EN):FU c gen E false:=fun h=>by cases h
theorem NJ (p:Nat) (c:Ac) (gen:Int) (B:List BK) (E:List EN) (w:World) (h:Bz w p c gen B E) (hfit:c.Fit) (hB:AL B) (hE:E.length≤140000):
  Calls Tryz.prog 153 #[.pointer (some ⟨p,0,none⟩)] w (Ew w (FU c gen E)):=by
 have h0:=h;obtain ⟨vB,vE,⟨c0,c1,c2,c3,c4,c5⟩,c6,c7,c8,hpB,hpE⟩:=h;have hm:=Mb c w hfit;simp only [Ac.cells] at hm
 obtain ⟨aoB,capB,rfl,hcB⟩:∃ao cap,vB= .slice ao B.length cap∧∀j (hj:j<B.length),∃g,ao=some ⟨g,0,none⟩∧w.cell? ⟨g,j * 2,none⟩=some (.string B[j].1)∧w.cell? ⟨g,j * 2+1,none⟩=some (.int .i64 B[j].2):=by
  rcases hpB.form with ⟨rfl,rfl⟩|⟨g,cap,rfl,_,_,hc⟩
  ·exact ⟨_,_,rfl,fun j hj=>by simp at hj⟩
  ·exact ⟨_,_,rfl,fun j hj=>⟨g,rfl,hc j hj⟩⟩
 obtain ⟨ao,cap,rfl,hc⟩:=hpE.off;clear hpB hpE;go_enter Tryz.func153,Tryz.ntmps153;go_wp2_with fail;refine hm.mono ?_;rintro e w1 ⟨ok,rfl,hb1,hok⟩;clear hm;have d6:=hb1.cell c6;cases ok
 ·go_wp2;go_ret;exact ⟨_,rfl,by solve_by_elim [jA,jB,jC,jD,jE],FU.no _ _ _⟩
 ·have hok':Hid c.OK:=hok.1 rfl;clear hok;by_cases hg1:gen<1
  ·go_wp2;go_ret;exact ⟨_,rfl,by solve_by_elim [jA,jB,jC,jD,jE],FU.no _ _ _⟩
  ·by_cases hg2:1073741824<gen
   ·go_wp2;go_ret;exact ⟨_,rfl,by solve_by_elim [jA,jB,jC,jD,jE],FU.no _ _ _⟩
   ·go_wp2_with fail;refine (Jq p c gen B E _ (h0.later hb1)).mono ?_;rintro e w2 ⟨pb,rfl,hb2,hpb⟩;have hbA:=hb1.trans hb2;have e0:=hbA.cell c0;have e2:=hbA.cell c2;have HG:Hid (1≤gen∧gen≤1073741824):=⟨by omega,by omega⟩;clear d6 hg1 hg2;have hP3:1≤c.points∧c.points≤3:=⟨hok'.out.2.2.2.2.2.1,hok'.out.2.2.2.2.2.2.1⟩;obtain ⟨hP1,hP2⟩:=hP3;go_upto_if 42 with fail
    go_cut [6] (fun v6 wc=>w2=wc∧∃per:Int,v6= .int .i64 per∧0≤per∧per≤3)
    case first=>
     by_cases halg:(c.alg==2)=true
     ·go_wp2_with fail;go_meet
      case rel=>exact ⟨rfl,_,rfl,by omega,by omega⟩
     ·have halg':(c.alg==2)=false:=by simpa using halg
      go_wp2_with fail;go_meet
      case rel=>exact ⟨rfl,_,rfl,by omega,by omega⟩
    case rest=>
     obtain ⟨rfl,per,rfl,hper1,hper2⟩:=hcut;have f7:=hbA.cell c7;have f8:=hbA.cell c8;go_wp2_with fail;go_loopg [4,7] B.length (fun r t i wr=>Aa w2 wr∧∃(tot:Int) (k:Nat),k≤B.length∧r=B.length - k∧t= .int .i64 tot∧i= .int .i64 k∧0≤tot∧tot≤6 * k)
     case atStart=>exact ⟨jD _,0,0,by omega,by omega,rfl,rfl,by omega,by omega⟩
     case round=>
      obtain ⟨hbo,tot,k,hk,hr,rfl,rfl,ht0,ht6⟩:=hrel;by_cases hlt:k<B.length
      ·obtain ⟨gB,rfl,b0,b1⟩:=hcB k hlt;have b0w:=hbA.cell b0;have b1w:=hbA.cell b1;have b0':=hbo.cell b0w;have b1':=hbo.cell b1w;have f7':=hbo.cell f7;have f8':=hbo.cell f8;have hgood:=hB.2 _ (jJ hlt);have hk8:=hB.1;generalize B[k]=bk at *;obtain ⟨idk,wt⟩:=bk;simp only at b0' b1' hgood b0w b1w;obtain ⟨-, -,hw0,hw6⟩:=hgood;have hltb:decide ((k:Int)<(B.length:Int))=true:=jL (by omega);go_wp2_with fail;go_loopg [8,9] E.length (fun r n j wx=>Aa w2 wx∧∃(m q:Nat),q≤E.length∧r=E.length - q∧n= .int .i64 m∧j= .int .i64 q∧m≤q)
       case atStart=>exact ⟨hbo,0,0,by omega,by omega,rfl,rfl,by omega⟩
       case round=>
        obtain ⟨hbr,m,q,hq,hr',rfl,rfl,hmq⟩:=hrel;have g7:=hbr.cell f7;have g8:=hbr.cell f8;have b0'':=hbr.cell b0w;have b1'':=hbr.cell b1w;by_cases hlt':q<E.length
        ·obtain ⟨gE,off,rfl,s0,s1,s2⟩:=hc q hlt';have s0':=(hbA.trans hbr).cell s0;generalize E[q]=en at *;obtain ⟨ide,ehi,elo⟩:=en;simp only at s0';cases heq:(ide.toList==idk.toList)
         ·go_wp2_with fail;go_quiet (fail);go_wp2_with fail;go_roundg (E.length - (q+1))
          case measure=>omega
          case rel=>exact ⟨by solve_by_elim [jA,jB,jC,jD,jE],m,q+1,by omega,rfl,rfl,by go_num,by omega⟩
         ·go_wp2_with fail;go_quiet (fail);go_wp2_with fail;go_roundg (E.length - (q+1))
          case measure=>omega
          case rel=>exact ⟨by solve_by_elim [jA,jB,jC,jD,jE],m+1,q+1,by omega,rfl,by go_num,by go_num,by omega⟩
        ·have hpw:0≤per * wt∧per * wt≤18:=by
          rcases (show per=0∨per=1∨per=2∨per=3 by omega) with rfl|rfl|rfl|rfl <;>omega
         obtain ⟨hpw1,hpw2⟩:=hpw
         have hm6:m≤140000:=by omega
         go_upto_region 18 with fail
         go_cut [114] (fun v wc=>Aa w2 wc∧∃x,v= .bool x)
         case first=>
          cases pb
          all_goals cases hn:((m:Int) !=per * wt)
          all_goals cases hw:(wt==0)
          all_goals by_cases hm0:0<m
          all_goals
           go_wp2_with fail
           go_meet
           case rel=>exact ⟨hbr,_,rfl⟩
         case rest=>
          obtain ⟨hbc,x,rfl⟩:=hcut
          have z7:=hbc.cell f7
          have z1:=hbc.cell b1w
          cases x
          ·go_wp2_with fail
           go_roundg (B.length - (k+1))
           case measure=>omega
           case rel=>exact ⟨by solve_by_elim [jA,jB,jC,jD,jE],tot+wt,k+1,by omega,rfl,rfl,by go_num,by omega,by omega⟩
          ·go_wp2
           go_ret
           exact ⟨_,rfl,by solve_by_elim [jA,jB,jC,jD,jE],FU.no _ _ _⟩
      ·have hokp:pb=false→¬EV c:=fun h1 h2=>by rw [hpb.2 h2] at h1;cases h1
       have f1':=hbo.cell (hbA.cell c1);have f8':=hbo.cell f8;have f7':=hbo.cell f7;cases pb
       ·have hnp:Hid (¬EV c):=hokp rfl;clear hokp hpb;by_cases ht:0<tot
        ·have htd:decide (0<tot)=true:=jL ht;have ht0':(tot==0)=false:=by rw [jI];omega
         cases hE2:((E.length:Int)==c.slots)
         ·go_wp2_with fail;go_quiet (fail);go_wp2;go_ret;exact ⟨_,rfl,by solve_by_elim [jA,jB,jC,jD,jE],FU.no _ _ _⟩
         ·have HE2:Hid ((E.length:Int)=c.slots):=beq_iff_eq.1 hE2;go_wp2_with fail;go_quiet (fail);go_wp2;go_ret;exact ⟨_,rfl,by solve_by_elim [jA,jB,jC,jD,jE],fun _=>⟨hok'.out,HG.out.1,HG.out.2,fun _=>Or.inr HE2.out⟩⟩
        ·have htd:decide (0<tot)=false:=jK ht;have ht0':(tot==0)=true:=by rw [beq_iff_eq];omega
         cases hE2:((E.length:Int)==0)
         ·go_wp2_with fail;go_quiet (fail);go_wp2;go_ret;exact ⟨_,rfl,by solve_by_elim [jA,jB,jC,jD,jE],FU.no _ _ _⟩
         ·have HE2:Hid (E=[]):=by
           have h1:(E.length:Int)=0:=beq_iff_eq.1 hE2;exact jS (by omega)
          go_wp2_with fail
          go_quiet (fail)
          go_wp2
          go_ret
          exact ⟨_,rfl,by solve_by_elim [jA,jB,jC,jD,jE],fun _=>⟨hok'.out,HG.out.1,HG.out.2,fun _=>Or.inl HE2.out⟩⟩
       ·have hpt:Hid (EV c):=hpb.1 rfl;clear hokp hpb;go_wp2_with fail;go_loopg [10] E.length (fun r i wx=>Aa w2 wx∧∃(j:Nat),r=E.length - j∧i= .int .i64 ((j:Int)+1))
        case atStart=>exact ⟨hbo,0,by omega,rfl⟩
        case round=>
         obtain ⟨hbr,j,hr',rfl⟩:=hrel;have g8:=hbr.cell f8;by_cases hlt':j+1<E.length
         ·obtain ⟨gE,off,rfl,s0,s1,s2⟩:=hc j (by omega);obtain ⟨gE',off',hao,v0,v1,v2⟩:=hc (j+1) hlt';simp only [Option.some.injEq,Addr.mk.injEq,and_true] at hao;obtain ⟨rfl,rfl⟩:=hao;have s0':=(hbA.trans hbr).cell s0;have s1':=(hbA.trans hbr).cell s1;have s2':=(hbA.trans hbr).cell s2;have v0':=(hbA.trans hbr).cell v0;have v1':=(hbA.trans hbr).cell v1;have v2':=(hbA.trans hbr).cell v2;have hpw:p<wr.heap.size:=jF g8;have hgw:gE<wr.heap.size:=jF s0';clear hc hcB s0 s1 s2 v0 v1 v2;generalize E[j]=en at *;obtain ⟨ide,ehi,elo⟩:=en;generalize E[j+1]=en at *;obtain ⟨idf,fhi,flo⟩:=en;simp only at s0' s1' s2' v0' v1' v2';go_wp2_with fail;refine (LR ehi elo fhi flo _).mono ?_;rintro e w5 ⟨AO,rfl,hb5, -⟩;obtain ⟨hq5,hf5⟩:=hb5.cellsTo (wr.heap.size+1+1) (by simp);go_upto_region 29 with fail
          go_cut [198] (fun v wc=>Aa w2 wc∧∃x,v= .bool x)
          case first=>
           cases AO
           ·go_wp2_with fail
            all_goals
             go_meet
             case rel=>exact ⟨by (repeat (first|exact jD _|assumption|refine jA ?_|refine jB ?_|refine jC ?_|refine Aa.step_set ?_ (by simp <;>omega) _|refine jE ?_ (by assumption))),_,rfl⟩
           ·go_wp2_with fail;go_meet
            case rel=>exact ⟨by (repeat (first|exact jD _|assumption|refine jA ?_|refine jB ?_|refine jC ?_|refine Aa.step_set ?_ (by simp <;>omega) _|refine jE ?_ (by assumption))),_,rfl⟩
          case rest=>
           obtain ⟨hbc,x,rfl⟩:=hcut;cases x
           ·go_wp2_with fail;go_roundg (E.length - (j+1))
            case measure=>omega
            case rel=>exact ⟨hbc,j+1,rfl,by go_num⟩
           ·go_wp2;go_ret;exact ⟨_,rfl,by solve_by_elim [jA,jB,jC,jD,jE],FU.no _ _ _⟩
         ·go_wp2;go_ret;exact ⟨_,rfl,by solve_by_elim [jA,jB,jC,jD,jE],fun _=>⟨hok'.out,HG.out.1,HG.out.2,fun h=>absurd hpt.out h⟩⟩
def BR (w:World) (b:Nat) (cs:List Value):Prop:=∀j v,cs[j]?=some v→w.cell? ⟨b,j,none⟩=some v∧w.frozen? ⟨b,j,none⟩=false
theorem BR.but {p:Nat} {a w:World} {b:Nat} {cs:List Value} (h:BR a b cs) (k:Ar p a w) (hb:b≠p):BR w b cs:=fun j v hv=>⟨k.cell (h j v hv).1 hb,k.frozen (h j v hv).1 (h j v hv).2 hb⟩
theorem BR.later {a w:World} {b:Nat} {cs:List Value} (h:BR a b cs) (k:Aa a w):BR w b cs:=fun j v hv=>⟨k.cell (h j v hv).1,k.frozen (h j v hv).1 (h j v hv).2⟩
theorem BR.set {w:World} {b:Nat} {cs:List Value} (h:BR w b cs) (i:Nat) (u:Value):BR (w.setCell ⟨b,i,none⟩ u) b (cs.set i u):=by
 intro j v hv;rw [List.getElem?_set] at hv;by_cases hij:i=j
 ·subst hij;rw [if_pos rfl] at hv;split at hv
  ·rename_i hlt;simp at hv;subst hv;have h1:=h i cs[i] (by simp [hlt]);exact ⟨Bc h1.1,by rw [Ag];exact h1.2⟩
  ·cases hv
 ·rw [if_neg hij] at hv;have h1:=h j v hv;exact ⟨by rw [Ad (Or.inr hij)];exact h1.1,by rw [Ag];exact h1.2⟩
theorem BR.alloc (w:World) (cs:List Value) (t:TypeId):BR (w.alloc (.cells cs.toArray t)) w.heap.size cs:=by
 intro j v hv;refine ⟨?_,by simp⟩;rw [cell_of_row _ w.heap.size j cs.toArray t (0,0) (heap_alloc_new w _)];simpa using hv
theorem Am.set_x {w:World} {v:Value} {L:List BK} {q i:Nat} {u:Value} {z:Int} (h:Am w v L) (hq:w.cell? ⟨q,0,none⟩=some (.int .i64 z)):Am (w.setCell ⟨q,i,none⟩ u) v L:=by
 rcases h with h|⟨g,cap,hv,hn,hg,hc⟩
 ·exact Or.inl h
 ·refine Or.inr ⟨g,cap,hv,hn,by simpa using hg,fun j x hx=>?_⟩
  have hl:0<L.length:=by
   rcases Nat.eq_zero_or_pos L.length with h0|h0
   ·rw [jS h0] at hx;simp [AC] at hx
   ·exact h0
  have h0:=hc _ _ (JU L 0 hl).1;simp only [Nat.zero_mul] at h0;have hne:q≠g:=fun e=>by subst e;rw [hq] at h0;cases h0
  rw [Ad (Or.inl hne)];exact hc j x hx
theorem Cl.set_x {w:World} {v:Value} {L:List EN} {q i:Nat} {u:Value} {z:Int} (h:Cl w v L) (hq:w.cell? ⟨q,0,none⟩=some (.int .i64 z)):Cl (w.setCell ⟨q,i,none⟩ u) v L:=by
 rcases h with h|⟨g,cap,hv,hn,hg,hc⟩
 ·exact Or.inl h
 ·refine Or.inr ⟨g,cap,hv,hn,by simpa using hg,fun j x hx=>?_⟩
  have hl:0<L.length:=by
   rcases Nat.eq_zero_or_pos L.length with h0|h0
   ·rw [jS h0] at hx;simp [Av] at hx
   ·exact h0
  have h0:=hc _ _ (Ig L 0 hl).1;simp only [Nat.zero_mul] at h0;have hne:q≠g:=fun e=>by subst e;rw [hq] at h0;cases h0
  rw [Ad (Or.inl hne)];exact hc j x hx
theorem Bz.of_blk {w:World} {p:Nat} {c:Ac} {gen:Int} {vB vE:Value} {B:List BK} {E:List EN} (h:BR w p [.int .i64 c.alg,.int .i64 c.slots,.int .i64 c.points,.int .i64 c.probes,.string c.key,.int .i64 c.formats,.int .i64 gen,vB,vE]) (hB:Am w vB B) (hE:Cl w vE E):Bz w p c gen B E:=
 ⟨vB,vE,⟨(h 0 _ rfl).1,(h 1 _ rfl).1,(h 2 _ rfl).1,(h 3 _ rfl).1,(h 4 _ rfl).1,(h 5 _ rfl).1⟩,(h 6 _ rfl).1,(h 7 _ rfl).1,(h 8 _ rfl).1,hB,hE⟩
def CL (base:Nat) (w:World) (p:Nat) (c:Ac) (gen:Int) (B:List BK) (E:List EN):Prop:=∃vB vE,
 ((w.cell? ⟨p, 0, none⟩ = some (.int .i64 c.alg) ∧ w.cell? ⟨p, 1, none⟩ = some (.int .i64 c.slots) ∧ w.cell? ⟨p, 2, none⟩ = some (.int .i64 c.points) ∧ w.cell? ⟨p, 3, none⟩ = some (.int .i64 c.probes) ∧ w.cell? ⟨p, 4, none⟩ = some (.string c.key) ∧ w.cell? ⟨p, 5, none⟩ = some (.int .i64 c.formats)) ∧
 w.cell? ⟨p, 6, none⟩ = some (.int .i64 gen) ∧ w.cell? ⟨p, 7, none⟩ = some vB ∧ w.cell? ⟨p, 8, none⟩ = some vE ∧ Am w vB B ∧ Cl w vE E) ∧ base ≤ p ∧ (∀ g, vB.ownBlock = some g → base ≤ g) ∧ ∀ g, vE.ownBlock = some g → base ≤ g
theorem CL.state {base:Nat} {w:World} {p:Nat} {c:Ac} {gen:Int} {B:List BK} {E:List EN} (h:CL base w p c gen B E):Bz w p c gen B E:=by
 obtain ⟨vB,vE,h1, -⟩:=h;exact ⟨vB,vE,h1⟩
theorem CL.later {base:Nat} {a w:World} {p:Nat} {c:Ac} {gen:Int} {B:List BK} {E:List EN} (h:CL base a p c gen B E) (k:Aa a w):CL base w p c gen B E:=by
 obtain ⟨vB,vE,⟨⟨h0,h1,h2,h3,h4,h5⟩,h6,h7,h8,h9,h10⟩,r⟩:=h;exact ⟨vB,vE,⟨⟨k.cell h0,k.cell h1,k.cell h2,k.cell h3,k.cell h4,k.cell h5⟩,k.cell h6,k.cell h7,k.cell h8,h9.later k,h10.later k⟩,r⟩
theorem CL.of_blk {base:Nat} {w:World} {p:Nat} {c:Ac} {gen:Int} {vB vE:Value} {B:List BK} {E:List EN} (h:BR w p [.int .i64 c.alg,.int .i64 c.slots,.int .i64 c.points,.int .i64 c.probes,.string c.key,.int .i64 c.formats,.int .i64 gen,vB,vE]) (hB:Am w vB B) (hE:Cl w vE E) (hp:base≤p) (hb:∀g,vB.ownBlock=some g→base≤g) (he:∀g,vE.ownBlock=some g→base≤g):CL base w p c gen B E:=
 ⟨vB,vE,⟨⟨(h 0 _ rfl).1,(h 1 _ rfl).1,(h 2 _ rfl).1,(h 3 _ rfl).1,(h 4 _ rfl).1,(h 5 _ rfl).1⟩,(h 6 _ rfl).1,(h 7 _ rfl).1,(h 8 _ rfl).1,hB,hE⟩,hp,hb,he⟩
def Ft (w:World) (e:Ending) (w':World):Prop:=∃(v:Value) (f:Int) (ok:Bool),e= .returned (.tuple #[v,.int .i64 f,.bool ok])∧Aa w w'∧
 (ok=true→∃(p:Nat) (c:Ac) (gen:Int) (B:List BK) (E:List EN),v= .pointer (some ⟨p,0,none⟩)∧w.heap.size≤p∧CL w.heap.size w' p c gen B E∧Dh c gen B E∧(∀x∈E,Af x.2.1∧Af x.2.2)∧1≤gen∧gen≤1073741824∧c.formats=3∧E.length≤65535)
theorem Ft.no {w w':World} (h:Aa w w') (f:Int):Ft w (.returned (.tuple #[.pointer none,.int .i64 f,.bool false])) w':=⟨_,_,_,rfl,h,fun h=>by cases h⟩
theorem L7 (s:ByteArray) (w:World) (hs:s.size≤1099511627776):
  Calls Tryz.prog 88 #[.string s] w (Ft w):=by
 go_enter Tryz.func88,Tryz.ntmps88;go_wp2_with fail;refine (KD s _ hs).mono ?_;rintro e w1 ⟨a,ok,rfl,hb1,ha, -⟩;cases ok
 ·go_wp2;go_ret3;exact Ft.no hb1 _
 ·go_upto_region 5 with fail
  have hT0:Aq (w1.alloc (.cells #[.string a,.bool false] 167)) w1.heap.size a false:=⟨by simp,by simp,by simp,by simp⟩;have hW0:Aa w (w1.alloc (.cells #[.string a,.bool false] 167)):=hb1.step_alloc _;have hpt0:w.heap.size≤w1.heap.size:=hb1.size;have hptl:w1.heap.size<(w1.alloc (.cells #[.string a,.bool false] 167)).heap.size:=by simp
  generalize w1.heap.size=pt at *;generalize w1.alloc (.cells #[.string a,.bool false] 167)=W0 at *;clear hb1;go_wp2_with fail;refine (Jr pt 2 a false _ (by decide) (by decide) (by unfold maxLen;omega) hT0).mono ?_;rintro e W1 ⟨v1,s1,sh1,rfl,hu1,hT1,h,rfl,g1, -, -, -⟩;have hW1:=hu1.bel hW0 hpt0;go_wp2_with fail;refine (C7 pt 1 s1 sh1 _ (by decide) (by decide) (by unfold maxLen;omega) hT1).mono ?_;rintro e W2 ⟨v2,s2,sh2,rfl,hu2,hT2,format,rfl,g2,f0,f1, -⟩;have f1':format<256:=by simpa using f1
  clear f1;have hW2:=hu2.bel hW1 hpt0;have hptl2:pt<W2.heap.size:=jN hptl (jX hu1.size hu2.size);clear hu1 hu2 hT0 hT1 hW0 hW1;go_upto_region 8 with fail
  have hX2:BR (W2.alloc (.cells #[.int .i64 0,.int .i64 0,.int .i64 0,.int .i64 0,.string ⟨#[]⟩,.int .i64 0,.int .i64 0,.slice none 0 0,.slice none 0 0] 123)) W2.heap.size [.int .i64 0,.int .i64 0,.int .i64 0,.int .i64 0,.string ⟨#[]⟩,.int .i64 0,.int .i64 0,.slice none 0 0,.slice none 0 0]:=BR.alloc _ _ _;replace hT2:=hT2.later (Aa.step_alloc (jD _) (.cells #[.int .i64 0,.int .i64 0,.int .i64 0,.int .i64 0,.string ⟨#[]⟩,.int .i64 0,.int .i64 0,.slice none 0 0,.slice none 0 0] 123));have hpx:w.heap.size≤W2.heap.size:=hW2.size;have hpxl:W2.heap.size<(W2.alloc (.cells #[.int .i64 0,.int .i64 0,.int .i64 0,.int .i64 0,.string ⟨#[]⟩,.int .i64 0,.int .i64 0,.slice none 0 0,.slice none 0 0] 123)).heap.size:=by simp
  replace hW2:=hW2.step_alloc (.cells #[.int .i64 0,.int .i64 0,.int .i64 0,.int .i64 0,.string ⟨#[]⟩,.int .i64 0,.int .i64 0,.slice none 0 0,.slice none 0 0] 123);have hne:W2.heap.size≠pt:=by omega
  generalize W2.heap.size=px at *;generalize W2.alloc (.cells #[.int .i64 0,.int .i64 0,.int .i64 0,.int .i64 0,.string ⟨#[]⟩,.int .i64 0,.int .i64 0,.slice none 0 0,.slice none 0 0] 123)=X0 at *;have hX:=hX2;have hT:=hT2;have hW:=hW2;have hlt:=hpxl;clear hX2 hT2 hW2 hpxl;go_wp2_with fail;refine (C7 pt 1 s2 sh2 _ (by decide) (by decide) (by unfold maxLen;omega) hT).mono ?_;rintro e X1 ⟨v,r1,q1,rfl,hu,hT',alg,rfl,z1,alg0,alg1, -⟩;have alg2:alg<256:=by simpa using alg1
  clear alg1;have hX':=hX.but hu hne;have hc:=(hX' 0 _ rfl).1;have hf:=(hX' 0 _ rfl).2;have hW':=hu.bel hW hpt0;have hlt':px<X1.heap.size:=jN hlt hu.size;clear hX hT hW hu hlt;have hX:BR (X1.setCell ⟨px,0,none⟩ (.int .i64 alg)) px [.int .i64 alg,.int .i64 0,.int .i64 0,.int .i64 0,.string ⟨#[]⟩,.int .i64 0,.int .i64 0,.slice none 0 0,.slice none 0 0]:=hX'.set 0 _;have hT:Aq (X1.setCell ⟨px,0,none⟩ (.int .i64 alg)) pt r1 q1:=hT'.other hne;have hW:Aa w (X1.setCell ⟨px,0,none⟩ (.int .i64 alg)):=hW'.step_set (p:=⟨px,0,none⟩) hpx _;have hlt:px<(X1.setCell ⟨px,0,none⟩ (.int .i64 alg)).heap.size:=by simpa using hlt'
  go_upto_region 9 with fail
  clear hX' hT' hW' hlt' hc hf;generalize X1.setCell ⟨px,0,none⟩ (.int .i64 alg)=Y1 at *;go_wp2_with fail;refine (C7 pt 4 r1 q1 _ (by decide) (by decide) (by unfold maxLen;omega) hT).mono ?_;rintro e X2 ⟨v,r2,q2,rfl,hu,hT',gen,rfl,z2,gen0,gen1, -⟩;have gen2:gen<4294967296:=by simpa using gen1
  clear gen1;have hX':=hX.but hu hne;have hc:=(hX' 6 _ rfl).1;have hf:=(hX' 6 _ rfl).2;have hW':=hu.bel hW hpt0;have hlt':px<X2.heap.size:=jN hlt hu.size;clear hX hT hW hu hlt;have hX:BR (X2.setCell ⟨px,6,none⟩ (.int .i64 gen)) px [.int .i64 alg,.int .i64 0,.int .i64 0,.int .i64 0,.string ⟨#[]⟩,.int .i64 0,.int .i64 gen,.slice none 0 0,.slice none 0 0]:=hX'.set 6 _;have hT:Aq (X2.setCell ⟨px,6,none⟩ (.int .i64 gen)) pt r2 q2:=hT'.other hne;have hW:Aa w (X2.setCell ⟨px,6,none⟩ (.int .i64 gen)):=hW'.step_set (p:=⟨px,6,none⟩) hpx _;have hlt:px<(X2.setCell ⟨px,6,none⟩ (.int .i64 gen)).heap.size:=by simpa using hlt'
  go_upto_region 10 with fail
  clear hX' hT' hW' hlt' hc hf;generalize X2.setCell ⟨px,6,none⟩ (.int .i64 gen)=Y2 at *;go_wp2_with fail;refine (C7 pt 2 r2 q2 _ (by decide) (by decide) (by unfold maxLen;omega) hT).mono ?_;rintro e X3 ⟨v,r3,q3,rfl,hu,hT',slots,rfl,z3,slots0,slots1, -⟩;have slots2:slots<65536:=by simpa using slots1
  clear slots1;have hX':=hX.but hu hne;have hc:=(hX' 1 _ rfl).1;have hf:=(hX' 1 _ rfl).2;have hW':=hu.bel hW hpt0;have hlt':px<X3.heap.size:=jN hlt hu.size;clear hX hT hW hu hlt;have hX:BR (X3.setCell ⟨px,1,none⟩ (.int .i64 slots)) px [.int .i64 alg,.int .i64 slots,.int .i64 0,.int .i64 0,.string ⟨#[]⟩,.int .i64 0,.int .i64 gen,.slice none 0 0,.slice none 0 0]:=hX'.set 1 _;have hT:Aq (X3.setCell ⟨px,1,none⟩ (.int .i64 slots)) pt r3 q3:=hT'.other hne;have hW:Aa w (X3.setCell ⟨px,1,none⟩ (.int .i64 slots)):=hW'.step_set (p:=⟨px,1,none⟩) hpx _;have hlt:px<(X3.setCell ⟨px,1,none⟩ (.int .i64 slots)).heap.size:=by simpa using hlt'
  go_upto_region 11 with fail
  clear hX' hT' hW' hlt' hc hf;generalize X3.setCell ⟨px,1,none⟩ (.int .i64 slots)=Y3 at *;go_wp2_with fail;refine (C7 pt 1 r3 q3 _ (by decide) (by decide) (by unfold maxLen;omega) hT).mono ?_;rintro e X4 ⟨v,r4,q4,rfl,hu,hT',points,rfl,z4,points0,points1, -⟩;have points2:points<256:=by simpa using points1
  clear points1;have hX':=hX.but hu hne;have hc:=(hX' 2 _ rfl).1;have hf:=(hX' 2 _ rfl).2;have hW':=hu.bel hW hpt0;have hlt':px<X4.heap.size:=jN hlt hu.size;clear hX hT hW hu hlt;have hX:BR (X4.setCell ⟨px,2,none⟩ (.int .i64 points)) px [.int .i64 alg,.int .i64 slots,.int .i64 points,.int .i64 0,.string ⟨#[]⟩,.int .i64 0,.int .i64 gen,.slice none 0 0,.slice none 0 0]:=hX'.set 2 _;have hT:Aq (X4.setCell ⟨px,2,none⟩ (.int .i64 points)) pt r4 q4:=hT'.other hne;have hW:Aa w (X4.setCell ⟨px,2,none⟩ (.int .i64 points)):=hW'.step_set (p:=⟨px,2,none⟩) hpx _;have hlt:px<(X4.setCell ⟨px,2,none⟩ (.int .i64 points)).heap.size:=by simpa using hlt'
  go_upto_region 12 with fail
  clear hX' hT' hW' hlt' hc hf;generalize X4.setCell ⟨px,2,none⟩ (.int .i64 points)=Y4 at *;go_wp2_with fail;refine (C7 pt 1 r4 q4 _ (by decide) (by decide) (by unfold maxLen;omega) hT).mono ?_;rintro e X5 ⟨v,r5,q5,rfl,hu,hT',probes,rfl,z5,probes0,probes1, -⟩;have probes2:probes<256:=by simpa using probes1
  clear probes1;have hX':=hX.but hu hne;have hc:=(hX' 3 _ rfl).1;have hf:=(hX' 3 _ rfl).2;have hW':=hu.bel hW hpt0;have hlt':px<X5.heap.size:=jN hlt hu.size;clear hX hT hW hu hlt;have hX:BR (X5.setCell ⟨px,3,none⟩ (.int .i64 probes)) px [.int .i64 alg,.int .i64 slots,.int .i64 points,.int .i64 probes,.string ⟨#[]⟩,.int .i64 0,.int .i64 gen,.slice none 0 0,.slice none 0 0]:=hX'.set 3 _;have hT:Aq (X5.setCell ⟨px,3,none⟩ (.int .i64 probes)) pt r5 q5:=hT'.other hne;have hW:Aa w (X5.setCell ⟨px,3,none⟩ (.int .i64 probes)):=hW'.step_set (p:=⟨px,3,none⟩) hpx _;have hlt:px<(X5.setCell ⟨px,3,none⟩ (.int .i64 probes)).heap.size:=by simpa using hlt'
  go_upto_region 13 with fail
  clear hX' hT' hW' hlt' hc hf;generalize X5.setCell ⟨px,3,none⟩ (.int .i64 probes)=Y5 at *;go_wp2_with fail;refine (Jr pt 16 r5 q5 _ (by decide) (by decide) (by unfold maxLen;omega) hT).mono ?_;rintro e X6 ⟨v,r6,q6,rfl,hu,hT',key,rfl,z6,key0, -, -⟩;have hX':=hX.but hu hne;have hc:=(hX' 4 _ rfl).1;have hf:=(hX' 4 _ rfl).2;have hW':=hu.bel hW hpt0;have hlt':px<X6.heap.size:=jN hlt hu.size;clear hX hT hW hu hlt;have hX:BR (X6.setCell ⟨px,4,none⟩ (.string key)) px [.int .i64 alg,.int .i64 slots,.int .i64 points,.int .i64 probes,.string key,.int .i64 0,.int .i64 gen,.slice none 0 0,.slice none 0 0]:=hX'.set 4 _;have hT:Aq (X6.setCell ⟨px,4,none⟩ (.string key)) pt r6 q6:=hT'.other hne;have hW:Aa w (X6.setCell ⟨px,4,none⟩ (.string key)):=hW'.step_set (p:=⟨px,4,none⟩) hpx _;have hlt:px<(X6.setCell ⟨px,4,none⟩ (.string key)).heap.size:=by simpa using hlt'
  go_upto_region 14 with fail
  clear hX' hT' hW' hlt' hc hf;generalize X6.setCell ⟨px,4,none⟩ (.string key)=Y6 at *;have hc5:=(hX 5 _ rfl).1;have hf5:=(hX 5 _ rfl).2;go_wp2_with fail;have hX5:BR (Y6.setCell ⟨px,5,none⟩ (.int .i64 3)) px [.int .i64 alg,.int .i64 slots,.int .i64 points,.int .i64 probes,.string key,.int .i64 3,.int .i64 gen,.slice none 0 0,.slice none 0 0]:=hX.set 5 _;have hT5:Aq (Y6.setCell ⟨px,5,none⟩ (.int .i64 3)) pt r6 q6:=hT.other hne;have hW5:Aa w (Y6.setCell ⟨px,5,none⟩ (.int .i64 3)):=hW.step_set (p:=⟨px,5,none⟩) hpx _;have hl5:px<(Y6.setCell ⟨px,5,none⟩ (.int .i64 3)).heap.size:=by simpa using hlt
  have hl5':pt<(Y6.setCell ⟨px,5,none⟩ (.int .i64 3)).heap.size:=World.block_lt_of_cell? _ _ hT5.1;clear hX hT hW hlt hc5 hf5;generalize Y6.setCell ⟨px,5,none⟩ (.int .i64 3)=Z0 at *;refine (OB pt r6 q6 _ (by unfold maxLen;omega) hT5 hl5').mono ?_;rintro e Z1 ⟨vB,L,okb,s7,sh7,rfl,hu,hT6,hs7,hPB,hL8,hblk,hokb⟩;have hX6:=hX5.but hu hne;have hW6:=hu.bel hW5 hpt0;have hBp:∀g,vB.ownBlock=some g→g≠pt:=fun g hg=>by have:=hblk g hg;omega
  have HNB:Hid (∀g,vB.ownBlock=some g→w.heap.size≤g):=fun g hg=>jX hW5.size (hblk g hg)
  have hl6:px<Z1.heap.size:=jN hl5 hu.size;have hc7:=(hX6 7 _ rfl).1;have hf7:=(hX6 7 _ rfl).2;clear hX5 hT5 hW5 hu hblk hl5 hl5';have hX7:BR (Z1.setCell ⟨px,7,none⟩ vB) px [.int .i64 alg,.int .i64 slots,.int .i64 points,.int .i64 probes,.string key,.int .i64 3,.int .i64 gen,vB,.slice none 0 0]:=hX6.set 7 _;have hT7:Aq (Z1.setCell ⟨px,7,none⟩ vB) pt s7 sh7:=hT6.other hne;have hW7:Aa w (Z1.setCell ⟨px,7,none⟩ vB):=hW6.step_set (p:=⟨px,7,none⟩) hpx _;have hl7:px<(Z1.setCell ⟨px,7,none⟩ vB).heap.size:=by simpa using hl6
  have hPB7:Am (Z1.setCell ⟨px,7,none⟩ vB) vB L:=hPB.set_x (hX6 0 _ rfl).1
  obtain ⟨aoB,capB,hvB⟩:∃ao cap,vB= .slice ao L.length cap:=by
   rcases hPB.form with ⟨h1,h2⟩|⟨g,cap,h1,_⟩
   ·subst h2;exact ⟨none,0,h1⟩
   ·exact ⟨_,_,h1⟩
  subst hvB;go_upto_region 17 with fail
  clear hX6 hT6 hW6 hl6 hc7 hf7 hPB;generalize Z1.setCell ⟨px,7,none⟩ (.slice aoB L.length capB)=Z2 at *;go_wp2_with fail;refine (C7 pt 2 s7 sh7 _ (by decide) (by decide) (by unfold maxLen;omega) hT7).mono ?_;rintro e Z3 ⟨v,s8,sh8,rfl,hu,hT8,n,rfl,hs8,n0,n1, -⟩;have n2:n<65536:=by simpa using n1
  clear n1;have hX8:=hX7.but hu hne;have hW8:=hu.bel hW7 hpt0;have hPB8:=hPB7.but hu hBp;have hl8:px<Z3.heap.size:=jN hl7 hu.size;clear hX7 hT7 hW7 hu hPB7 hl7;obtain ⟨hT80,hT81,hT82,hT83⟩:=hT8;cases okb
  ·go_wp2;go_ret3;exact Ft.no hW8 _
  obtain ⟨hsh7,hPO⟩:=hokb rfl;clear hokb;cases sh8
  rotate_left
  ·go_wp2;go_ret3;exact Ft.no hW8 _
  cases hCH:(h.toList==[67,72])
  ·go_wp2;go_ret3;exact Ft.no hW8 _
  by_cases hfm1:format<1
  ·go_wp2;go_ret3;exact Ft.no hW8 _
  by_cases hfm2:2<format
  ·go_wp2;go_ret3;exact Ft.no hW8 _
  have hSt0:Bz Z3 px ⟨alg,slots,points,probes,key,3⟩ gen L []:=Bz.of_blk hX8 hPB8 (Or.inl ⟨rfl,rfl,rfl⟩);go_wp2_with fail;refine (Jq px _ _ _ _ _ hSt0).mono ?_;rintro e Z4 ⟨pb,rfl,hb4, -⟩;have hT9:=Aq.later ⟨hT80,hT81,hT82,hT83⟩ hb4;have hX9:=hX8.later hb4;have hPB9:=hPB8.later hb4;have hW9:=hW8.trans hb4;have hl9:px<Z4.heap.size:=jN hl8 hb4.size;have hl9':pt<Z4.heap.size:=World.block_lt_of_cell? _ _ hT9.1;clear hT80 hT81 hT82 hT83 hX8 hPB8 hW8 hl8 hSt0 hb4;obtain ⟨nn,rfl⟩:=jM n0;have HBp:Hid (∀g,(Value.slice aoB L.length capB).ownBlock=some g→g≠pt):=hBp;clear hBp hCH n0;have n3:nn≤65535:=by omega
  clear n2;have hW4:Hid (Aa w Z4):=hW9;go_upto_if 105 with fail
  go_cut [14,6] (fun v14 v6 wc=>∃(E2:List EN) (ok2:Bool),v6= .bool ok2∧Dz w.heap.size wc v14 E2∧E2.length≤65535∧(∀x∈E2,DZ L x)∧BR wc px [.int .i64 alg,.int .i64 slots,.int .i64 points,.int .i64 probes,.string key,.int .i64 3,.int .i64 gen,.slice aoB L.length capB,.slice none 0 0]∧Am wc (.slice aoB L.length capB) L∧Aa w wc)
  case first=>
   by_cases hf1:format=1
   ·subst hf1;go_wp2_with fail;refine (OJ pt nn pb _ L s8 false _ (by unfold maxLen;omega) hT9 hl9' n3 hPB9 hL8 HBp.out).mono ?_;rintro e Z5 ⟨vE,E2,ok2,s9,sh9,rfl,hu,hT10,hs9,hE2,hE2l,hgood⟩;go_wp2_with fail;go_meet
    case rel=>exact ⟨E2,ok2,rfl,⟨hE2.1,fun g hg=>jX hW9.size (hE2.2 g hg)⟩,by omega,hgood,hX9.but hu hne,hPB9.but hu HBp.out,hu.bel hW9 hpt0⟩
   ·have hf1':(format==1)=false:=by simpa using hf1
    go_wp2_with fail;refine (Wa pt nn pb _ L s8 false _ (by omega) hT9 hl9' n3 hPB9 hL8 HBp.out).mono ?_;rintro e Z5 ⟨vE,E2,ok2,s9,sh9,rfl,hu,hT10,hs9,hE2,hE2l,hgood⟩;go_wp2_with fail;go_meet
    case rel=>exact ⟨E2,ok2,rfl,⟨hE2.1,fun g hg=>jX hW9.size (hE2.2 g hg)⟩,by omega,hgood,hX9.but hu hne,hPB9.but hu HBp.out,hu.bel hW9 hpt0⟩
  case rest=>
   obtain ⟨E2,ok2,rfl,hE2,hE2l,hgood,hX10,hPB10,hW10⟩:=hcut;clear hT9 hX9 hPB9 hW9 hl9 hl9' hW4
   obtain ⟨aoE,capE,hvE⟩:∃ao cap,u14= .slice ao E2.length cap:=by
    obtain ⟨ao,cap,hv,_⟩:=hE2.1.off;exact ⟨ao,cap,hv⟩
   subst hvE;have hc8:=(hX10 8 _ rfl).1;have hf8:=(hX10 8 _ rfl).2;have hX11:BR (wc.setCell ⟨px,8,none⟩ (.slice aoE E2.length capE)) px [.int .i64 alg,.int .i64 slots,.int .i64 points,.int .i64 probes,.string key,.int .i64 3,.int .i64 gen,.slice aoB L.length capB,.slice aoE E2.length capE]:=hX10.set 8 _;have hW11:Aa w (wc.setCell ⟨px,8,none⟩ (.slice aoE E2.length capE)):=hW10.step_set (p:=⟨px,8,none⟩) hpx _;have hPB11:Am (wc.setCell ⟨px,8,none⟩ (.slice aoE E2.length capE)) (.slice aoB L.length capB) L:=hPB10.set_x (hX10 0 _ rfl).1;have hE11:Cl (wc.setCell ⟨px,8,none⟩ (.slice aoE E2.length capE)) (.slice aoE E2.length capE) E2:=hE2.1.set_x (hX10 0 _ rfl).1;have hSt:Bz (wc.setCell ⟨px,8,none⟩ (.slice aoE E2.length capE)) px ⟨alg,slots,points,probes,key,3⟩ gen L E2:=Bz.of_blk hX11 hPB11 hE11;have HStN:Hid (CL w.heap.size (wc.setCell ⟨px,8,none⟩ (.slice aoE E2.length capE)) px ⟨alg,slots,points,probes,key,3⟩ gen L E2):=CL.of_blk hX11 hPB11 hE11 hpx HNB.out hE2.2;go_upto_region 26 with fail
   clear hX10 hPB10 hW10 hE2 hc8 hf8 hX11 hPB11 hE11;generalize wc.setCell ⟨px,8,none⟩ (.slice aoE E2.length capE)=V0 at *;cases ok2
   ·go_wp2;go_ret3;exact Ft.no hW11 _
   ·go_wp2_with fail;have hfit:Ac.Fit ⟨alg,slots,points,probes,key,3⟩:=⟨⟨by simp only;omega,by simp only;omega⟩,⟨by simp only;omega,by simp only;omega⟩,⟨by simp only;omega,by simp only;omega⟩,⟨by simp only;omega,by simp only;omega⟩,⟨by simp only;omega,by simp only;omega⟩,by simp only;unfold maxLen;omega⟩;refine (NJ px _ _ _ _ _ hSt hfit hPO (by omega)).mono ?_;rintro e V1 ⟨okw,rfl,hbv,hwh⟩;have hW12:=hW11.trans hbv;cases okw
    ·go_wp2;go_ret3;exact Ft.no hW12 _
    ·obtain ⟨hOK,hg1,hg2,hsl⟩:=hwh rfl;clear hwh;have hSO:Dh ⟨alg,slots,points,probes,key,3⟩ gen L E2:=⟨hOK,⟨by omega,by omega⟩,hPO,by omega,fun x hx=>(hgood x hx).1,hsl⟩;have hWW:∀x∈E2,Af x.2.1∧Af x.2.2:=fun x hx=>(hgood x hx).2
     have HSO:Hid (Dh ⟨alg,slots,points,probes,key,3⟩ gen L E2):=hSO;clear hOK hsl hSO;go_wp2_with fail;refine (Fw px _ _ _ _ format _ (hSt.later hbv) HSO.out ⟨by omega,by omega⟩ (fun x hx=>⟨(hWW x hx).1.i64,(hWW x hx).2.i64⟩)).mono ?_;rintro e V2 ⟨b,rfl,hbw, -⟩;go_wp2;go_ret3;exact ⟨_,_,_,rfl,hW12.trans hbw,fun _=>⟨px,_,gen,L,E2,rfl,hpx,(HStN.out.later hbv).later hbw,HSO.out,hWW,hg1,hg2,rfl,hE2l⟩⟩
end Go.Proofs.YtpapdkhjdelfcabGreat
