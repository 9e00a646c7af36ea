import Derived.Test.YtpapdkhjdelfcaaGreatMAZ
namespace Go.Proofs.YtpapdkhjdelfcaaGreat
open Go.RowKit
set_option maxRecDepth 100000
set_option maxHeartbeats 4000000
def GG (s:Int) (k:Nat):Prop:=1<s/\∀d:Nat,2<=d->d<k->s % d≠0
theorem GG.step {s:Int} {k:Nat} (a:2<=k):GG s (k+1)↔GG s k/\s % k≠0:=by
 constructor
 .intro ⟨h,hd⟩;exact ⟨⟨h,fun d b a=>hd d b jo⟩,hd k a jo⟩
 .intro ⟨⟨h,hd⟩,hk⟩;refine ⟨h,fun d b a=>?_⟩;by_cases e:d=k
  .subst e;exact hk
  .exact hd d b jo
theorem Mb (c:Ac) (w:jj) (D:c.Fit):
  Calls Tryz.prog 52 #[.agg c.cells] w (Ew w (Co c.OK)):=by
 obtain ⟨alg,a,l,m,key,g⟩:=c;obtain ⟨⟨E,F⟩,⟨G,H⟩,⟨I,J⟩,⟨K,L⟩,⟨M,N⟩,A⟩:=D;simp only at E F G H I J K L M N A;unfold maxLen at A;simp only [Ac.cells];go_enter Tryz.func52,Tryz.ntmps52;go_wp2;go_loop [3,4] (fun p d=>∃(k:Nat) (x:Bool),2<=k/\k<=301/\d= .int .i64 k/\p= .bool x/\(k=2\/(k:Int)<=a)/\Co (GG a k) x) (fun _ d=>301 - (intOf d).toNat)
 case atStart=>exact ⟨2,_,jo,jo,rfl,rfl,Or.inl rfl,by unfold Co GG;simp;intro _ d n B;omega⟩
 case round=>
  obtain ⟨k,x,o,O,rfl,rfl,P,hx⟩:=hrel;by_cases Q:(k:Int)<a
  .by_cases C:(k:Int)>300
   .clear hx;cases x
    all_goals
     go_wp2
     all_goals
      go_ret;refine ⟨_,rfl,jq,?_⟩;constructor
      .intro h
       first|(cases h;done)|(exfalso;omega)
      .intro h;have:=h.2.2.2.1;simp only at this;exfalso;omega
   .have b:=GG.step (s:=a) o;by_cases f:a % (k:Int)=0
    .have q:(a % (k:Int) !=0)=false:=by rw [jc];exact f
     have hF:Co (GG a (k+1)) false:=⟨fun h=>(by cases h),fun h=>absurd f (b.1 h).2⟩;clear b f;cases x
     all_goals
      go_wp2;go_round
      case rel=>exact ⟨k+1,false,jo,jo,by go_num,rfl,Or.inr jo,hF⟩
      case measure=>simp [intOf];omega
    .have q:(a % (k:Int) !=0)=true:=by rw [bne_iff_ne];exact f
     have hF:Co (GG a (k+1)) x:=⟨fun h=>b.2 ⟨hx.1 h,f⟩,fun h=>hx.2 (b.1 h).1⟩;clear b f hx;cases x
     all_goals
      go_wp2;go_round
      case rel=>exact ⟨k+1,_,jo,jo,by go_num,rfl,Or.inr jo,hF⟩
      case measure=>simp [intOf];omega
  .have r:x=true->∀d:Nat,2<=d->(d:Int)<a->a % d≠0:=fun h d n B=>(hx.1 h).2 d n jo
   have t : (∀ d : Nat, 2 <= d -> (d : Int) < a -> a % d ≠ 0) -> 3 <= a -> a <= 211 -> x = true := fun h Z h4 => hx.2 ⟨jo, fun d n B => by
     exact h d n jo⟩
   clear hx;cases x
   .have u:Hid (¬((∀d:Nat,2<=d->(d:Int)<a->a % d≠0)/\3<=a/\a<=211)):=fun h=>by cases t h.1 h.2.1 h.2.2
    clear r t;go_wp2
    all_goals
     go_ret;refine ⟨_,rfl,jq,?_⟩;constructor
     .intro h
      first|(cases h;done)|(simp at h;done)
     .intro h;exact absurd ⟨h.2.2.2.2.1,h.2.2.1,h.2.2.2.1⟩ u.out
   .have i:Hid (∀d:Nat,2<=d->(d:Int)<a->a % d≠0):=r rfl;clear r t;go_wp2
    all_goals
     go_ret;refine ⟨_,rfl,jq,?_⟩;constructor
     .intro h
      first|(cases h;done)|(have h':=of_decide_eq_true h;refine ⟨?_,?_,?_,?_,i.out,?_,?_,?_,?_,?_,?_,?_⟩<;>simp only <;>omega)|(refine ⟨?_,?_,?_,?_,i.out,?_,?_,?_,?_,?_,?_,?_⟩<;>simp only <;>omega)
     .intro h;obtain ⟨R,S,T,U,_,V,W,X,Y,v,y,z⟩:=h;simp only at R S T U V W X Y v y z
      first|rfl|(exfalso;omega)|(simp;omega)
def Aq (w:jj) (p:Nat) (s:jt) (sh:Bool):Prop:=w.cell? ⟨p,0,none⟩=some (.string s)/\w.cell? ⟨p,1,none⟩=some (.bool sh)/\w.frozen? ⟨p,0,none⟩=false/\w.frozen? ⟨p,1,none⟩=false
structure Ar (p:Nat) (w w':jj):Prop where
 os:w'.os=w.os
 tape:w'.tape=w.tape
 output:w'.output=w.output
 size:w.heap.size<=w'.heap.size
 block:∀k,k<w.heap.size->k≠p->w'.heap[k]?=w.heap[k]?
theorem Ar.refl (p:Nat) (w:jj):Ar p w w:=⟨rfl,rfl,rfl,jH _,fun _ _ _=>rfl⟩
theorem Ar.trans {p:Nat} {a b c:jj} (h:Ar p a b) (k:Ar p b c):Ar p a c:=
 ⟨k.os.trans h.os,k.tape.trans h.tape,k.output.trans h.output,jX h.size k.size,fun i d f=>(k.block i (jN d h.size) f).trans (h.block i d f)⟩
theorem Ar.of_bel {p:Nat} {a b:jj} (h:Aa a b):Ar p a b:=⟨h.below.os,h.below.tape,h.below.output,h.size,fun i c _=>h.block i c⟩
theorem Ar.cell {p:Nat} {a w:jj} (h:Ar p a w) {q:Addr} {v:ju} (b:a.cell? q=some v) (c:q.block≠p):w.cell? q=some v:=(World.cell?_of_block (h.block q.block (World.block_lt_of_cell? a q b) c)).trans b
theorem Ar.frozen {p:Nat} {a w:jj} (h:Ar p a w) {q:Addr} {v:ju} (b:a.cell? q=some v) (c:a.frozen? q=false) (d:q.block≠p):w.frozen? q=false:=(World.frozen?_of_block (h.block q.block (World.block_lt_of_cell? a q b) d)).trans c
theorem Ar.alloc {p:Nat} {a w:jj} (h:Ar p a w) (o:Obj):Ar p a (w.alloc o):=h.trans (Ar.of_bel (Aa.step_alloc (jD _) _))
theorem Ar.step_new {p:Nat} {a w:jj} (h:Ar p a w) {q:Addr} (d:a.heap.size<=q.block) (u:ju):Ar p a (w.setCell q u):=
 ⟨h.os,h.tape,h.output,by simpa using h.size,fun k b c=>(Below.heap_setCell _ _ _ _ jo).trans (h.block k b c)⟩
theorem Am.but {p:Nat} {a w:jj} {v:ju} {l:List BK} (h:Am a v l) (k:Ar p a w) (b:∀g,v.ownBlock=some g->g≠p):Am w v l:=by
 rcases h with h|⟨g,cap,rfl,c,d,f⟩
 .exact Or.inl h
 .exact Or.inr ⟨g,cap,rfl,c,jN d k.size,fun j u i=>k.cell (f j u i) (b g rfl)⟩
theorem Ar.set (p o:Nat) (w:jj) (u:ju):Ar p w (w.setCell ⟨p,o,none⟩ u):=⟨rfl,rfl,rfl,js,fun k _ a=>Below.heap_setCell _ _ _ _ a⟩
theorem Ar.step_set {p o:Nat} {a w:jj} (h:Ar p a w) (u:ju):Ar p a (w.setCell ⟨p,o,none⟩ u):=h.trans (Ar.set p o w u)
theorem Ar.bel {p:Nat} {z a b:jj} (h:Ar p a b) (k:Aa z a) (d:z.heap.size<=p):Aa z b:=
 ⟨h.os.trans k.below.os,h.tape.trans k.below.tape,h.output.trans k.below.output,jX k.size h.size,fun i c=>(h.block i (jN c k.size) jo).trans (k.block i c)⟩
theorem Aq.set0 {w:jj} {p:Nat} {s:jt} {sh:Bool} (h:Aq w p s sh) (a:jt):Aq (w.setCell ⟨p,0,none⟩ (.string a)) p a sh:=
 ⟨Bc h.1,by rw [Ad js];exact h.2.1,by rw [Ag];exact h.2.2.1,by rw [Ag];exact h.2.2.2⟩
theorem Aq.set1 {w:jj} {p:Nat} {s:jt} {sh:Bool} (h:Aq w p s sh) (a:Bool):Aq (w.setCell ⟨p,1,none⟩ (.bool a)) p s a:=
 ⟨by rw [Ad js];exact h.1,Bc h.2.1,by rw [Ag];exact h.2.2.1,by rw [Ag];exact h.2.2.2⟩
theorem Aq.later {a w:jj} {p:Nat} {s:jt} {sh:Bool} (h:Aq a p s sh) (k:Aa a w):Aq w p s sh:=
 ⟨k.cell h.1,k.cell h.2.1,k.frozen h.1 h.2.2.1,k.frozen h.2.1 h.2.2.2⟩
def LX (w:jj) (p:Nat) (f:Value->ByteArray->Bool->Prop) (e:Ending) (w':jj):Prop:=∃v s sh,e= .returned v/\Ar p w w'/\Aq w' p s sh/\f v s sh
theorem Kg (x:jt) (n:Nat) (h:x.size<=n):0<=BQ x.data.toList/\BQ x.data.toList<256 ^ n:=by
 have a:=Lm x.data.toList n;have b:=MS x.data.toList n;rw [jR (by simpa using h)] at a b;exact ⟨a,b⟩
def Eb (w:jj) (v:ju) (L:List EN):Prop:=∃b cap,v= .slice b L.length cap/\∀j (h:j<L.length),∃g a,b=some ⟨g,a,none⟩/\w.cell? ⟨g,a+j * 3,none⟩=some (.string L[j].1)/\w.cell? ⟨g,a+j * 3+1,none⟩=some (.int .i64 L[j].2.1)/\w.cell? ⟨g,a+j * 3+2,none⟩=some (.int .i64 L[j].2.2)
theorem Eb.later {a w:jj} {v:ju} {L:List EN} (h:Eb a v L) (k:Aa a w):Eb w v L:=by
 obtain ⟨c,cap,d,f⟩:=h;refine ⟨c,cap,d,fun j i=>?_⟩;obtain ⟨g,b,l,m,n,o⟩:=f j i;exact ⟨g,b,l,k.cell m,k.cell n,k.cell o⟩
theorem Cl.off {w:jj} {v:ju} {L:List EN} (h:Cl w v L):Eb w v L:=by
 rcases h.form with ⟨rfl,rfl⟩|⟨g,cap,rfl,_,_,b⟩
 .exact ⟨none,0,rfl,fun j a=>by simp at a⟩
 .refine ⟨_,cap,rfl,fun j a=>⟨g,0,rfl,?_⟩⟩;simpa using b j a
def Bz (w:jj) (p:Nat) (c:Ac) (a:Int) (B:List BK) (E:List EN):Prop:=∃b d,
 (w.cell? ⟨p,0,none⟩=some (.int .i64 c.alg)/\w.cell? ⟨p,1,none⟩=some (.int .i64 c.slots)/\w.cell? ⟨p,2,none⟩=some (.int .i64 c.points)/\w.cell? ⟨p,3,none⟩=some (.int .i64 c.probes)/\w.cell? ⟨p,4,none⟩=some (.string c.key)/\w.cell? ⟨p,5,none⟩=some (.int .i64 c.formats))/\
 w.cell? ⟨p,6,none⟩=some (.int .i64 a)/\w.cell? ⟨p,7,none⟩=some b/\w.cell? ⟨p,8,none⟩=some d/\Am w b B/\Cl w d E
theorem Bz.later {a w:jj} {p:Nat} {c:Ac} {b:Int} {B:List BK} {E:List EN} (h:Bz a p c b B E) (k:Aa a w):Bz w p c b B E:=by
 obtain ⟨f,g,⟨i,l,m,n,o,q⟩,r,s,t,u,d⟩:=h;exact ⟨f,g,⟨k.cell i,k.cell l,k.cell m,k.cell n,k.cell o,k.cell q⟩,k.cell r,k.cell s,k.cell t,u.later k,d.later k⟩
def EV (c:Ac):Prop:=c.alg=2\/c.alg=4
def Dh (c:Ac) (a:Int) (B:List BK) (E:List EN):Prop:=c.OK/\Aj a/\AL B/\E.length<=140000/\(∀x∈E,(∃b∈B,b.1=x.1))/\(¬EV c->E=[]\/(E.length:Int)=c.slots)
theorem Jq (p:Nat) (c:Ac) (f:Int) (B:List BK) (E:List EN) (w:jj) (h:Bz w p c f B E):
  Calls Tryz.prog 96 #[.pointer (some ⟨p,0,none⟩)] w (Ew w (Co (EV c))):=by
 obtain ⟨m,n,⟨k,_⟩,_⟩:=h;obtain ⟨alg,g,b,d,key,a⟩:=c;simp only at k;by_cases i:alg=2
 .subst i;go_enter Tryz.func96,Tryz.ntmps96;go_wp2;go_ret;exact ⟨_,rfl,jq,⟨fun _=>Or.inl rfl,fun _=>rfl⟩⟩
 .have l:(alg==2)=false:=by simpa using i
  go_enter Tryz.func96,Tryz.ntmps96;go_wp2;go_ret;refine ⟨_,rfl,jq,?_⟩;constructor
  .intro h;exact Or.inr (by simpa using h)
  .intro h;rcases h with h|h
   .exact absurd h i
   .simpa using h
theorem Jj {w w':jj} {a b:Addr} {c d:ju} (h:Aa w w') (f:w.cell? a=some c) (g:w.cell? b=some d):Aa w w'/\w'.cell? a=some c/\w'.cell? b=some d:=⟨h,h.cell f,h.cell g⟩
theorem IH (l:jy) (h:(l.all fun c=>decide (48<=c.toNat/\c.toNat<=57))=true):GP ⟨l.toArray⟩:=by
 intro i b;have a:i<l.length:=by simpa [ByteArray.size] using b
 have:=List.all_eq_true.1 h (l[i]) (jJ a);simpa [ByteArray.getElem_eq_getElem_data] using this
theorem U7:GP ⟨#[52,52,49]⟩:=IH [52,52,49] ji
theorem Aj.three {a b c:Int} (d:Aj a) (f:Aj b) (g:Aj c):∀t,Aj ([a,b,c].getD t 0):=by
 intro t
 match t with
 |0=>exact d
 |1=>exact f
 |2=>exact g
 |_+3=>exact (show Aj 0 from ⟨ji,ji⟩)
theorem Rf:GP ⟨#[49,49,52,50,49,49]⟩:=IH [49,49,52,50,49,49] ji
theorem Qu (q:Nat) (h:q<=8):(2:Int) ^ q<=256:=by
 rcases (show q=0\/q=1\/q=2\/q=3\/q=4\/q=5\/q=6\/q=7\/q=8 by omega) with rfl|rfl|rfl|rfl|rfl|rfl|rfl|rfl|rfl <;>decide
theorem K8 {w w':jj} {a b c d f:Addr} {g i k l m:ju} (h:Aa w w') (n:w.cell? a=some g) (o:w.cell? b=some i) (p:w.cell? c=some k) (q:w.cell? d=some l) (r:w.cell? f=some m):
  Aa w w'/\w'.cell? a=some g/\w'.cell? b=some i/\w'.cell? c=some k/\w'.cell? d=some l/\w'.cell? f=some m:=⟨h,h.cell n,h.cell o,h.cell p,h.cell q,h.cell r⟩
theorem Aj.six {a b c d e f:Int} (g:Aj a) (i:Aj b) (k:Aj c) (l:Aj d) (m:Aj e) (n:Aj f):∀t,Aj ([a,b,c,d,e,f].getD t 0):=by
 intro t
 match t with
 |0=>exact g
 |1=>exact i
 |2=>exact k
 |3=>exact l
 |4=>exact m
 |5=>exact n
 |_+6=>exact (show Aj 0 from ⟨ji,ji⟩)
theorem Af.i64 {a:Int} (h:Af a):Aj a:=⟨by have:=h.1;omega,by have:=h.2;omega⟩
theorem Tryz.infoBKS:(Tryz.prog.info? 57).map (fun i=>(i.zero,i.size,i.bytes))=some (some (.agg #[.string ByteArray.empty,.int .i64 0]),2,24):=by kernel_rfl
theorem JB {w w':jj} {p base:Nat} {e:TypeId} {a:Nat} {v:ju} {n:Nat} {d:List Value} (h:w.ownsRow base e a v n d) (k:Ar p w w') (o:p<base):w'.ownsRow base e a v n d:=by
 obtain ⟨i,b⟩:=h;refine ⟨i,?_⟩;rcases b with b|⟨g,cap,c,l,m,f,r⟩
 .exact Or.inl b
 .exact Or.inr ⟨g,cap,c,l,m,by rw [k.block g (Array.getElem?_eq_some_iff.1 f).1 jo];exact f,r⟩
theorem UN (l:List BK) (b:BK):AC (l++[b])=AC l++[.string b.1,.int .i64 b.2]:=by simp [AC]
theorem Ar.grown {p:Nat} {a w w':jj} {row:Option Nat} (h:Ar p a w) (b:w.grownBy w' row) (d:∀k,row=some k->a.heap.size<=k):Ar p a w':=
 ⟨b.os.trans h.os,b.tape.trans h.tape,b.output.trans h.output,jX h.size b.size,fun i c f=>(b.block i (jN c h.size) (fun e=>by have:=d i e.symm;omega)).trans (h.block i c f)⟩
theorem Ar.text {p:Nat} (a:jj) {w w':jj} {row:Option Nat} {s:jt} {sh:Bool} (b:Aq w p s sh) (f:w.grownBy w' row) (g:∀k,row=some k->a.heap.size<=k) (i:p<a.heap.size):Aq w' p s sh:=by
 have d:some p≠row:=fun e=>by have:=g p e.symm;omega
 have c:=f.block p (World.block_lt_of_cell? w ⟨p,0,none⟩ b.1) d;exact ⟨(World.cell?_of_block (a:=⟨p,0,none⟩) c).trans b.1,(World.cell?_of_block (a:=⟨p,1,none⟩) c).trans b.2.1,(World.frozen?_of_block (a:=⟨p,0,none⟩) c).trans b.2.2.1,(World.frozen?_of_block (a:=⟨p,1,none⟩) c).trans b.2.2.2⟩
def PW (b:BK):Prop:=1<=b.1.size/\b.1.size<=8/\0<=b.2/\b.2<=6
theorem Tryz.infoEN:(Tryz.prog.info? 146).map (fun i=>(i.zero,i.size,i.bytes))=some (some (.agg #[.string ByteArray.empty,.int .i64 0,.int .i64 0]),3,32):=by kernel_rfl
theorem Gq (l:List EN) (b:EN):Av (l++[b])=Av l++[.string b.1,.int .i64 b.2.1,.int .i64 b.2.2]:=by simp [Av]
def DZ (B:List BK) (e:EN):Prop:=(∃b∈B,b.1=e.1)/\Af e.2.1/\Af e.2.2
theorem FX (w:jj) (a b c:ju) (t:TypeId) (n:Nat) (f:n=w.heap.size):∀j u,[a,b,c][j]?=some u->(w.alloc (.cells #[a,b,c] t)).cell? ((⟨n,0,none⟩:Addr).add j)=some u:=by
 subst f;intro j u d
 match j,d with
 |0,d=>simp at d;subst d;simp [Addr.add]
 |1,d=>simp at d;subst d;simp [Addr.add]
 |2,d=>simp at d;subst d;simp [Addr.add]
theorem Cd:Af 0:=⟨ji,ji⟩
theorem Aq.other {w:jj} {p q o:Nat} {s:jt} {sh:Bool} {u:ju} (h:Aq w p s sh) (a:q≠p):Aq (w.setCell ⟨q,o,none⟩ u) p s sh:=
 ⟨by rw [Ad (Or.inl a)];exact h.1,by rw [Ad (Or.inl a)];exact h.2.1,by rw [Ag];exact h.2.2.1,by rw [Ag];exact h.2.2.2⟩
theorem Bp {s:jt} (h:Db s) (a b:Nat):Db (s.extract a b):=by
 intro i d;have c:a+i<s.size:=by simp at d;omega
 have:=h (a+i) c;simpa [ByteArray.getElem_extract] using this
theorem Dn (s:jt) (h:Db s) (n:Nat) (a:s.size=n):0<=Ba s.data.toList/\Ba s.data.toList<2 ^ n:=by
 have:=Ok s h s.size (jH _);rw [jR js,a] at this;exact this
abbrev HX:=Ac×Int×List BK×List EN
def Zcs:Option HX->Int
 |none=>0
 |some h=>h.2.1
def Di (w:jj) (v:ju) (G:List ByteArray):Prop:=(v= .slice none 0 0/\G=[])\/∃g cap,v= .slice (some ⟨g,0,none⟩) G.length cap/\g<w.heap.size/\∀(j:Nat) (s:jt),G[j]?=some s->w.cell? ⟨g,j,none⟩=some (.string s)/\w.frozen? ⟨g,j,none⟩=false/\s.size<=48
theorem Di.later {a w:jj} {v:ju} {G:List ByteArray} (h:Di a v G) (k:Aa a w):Di w v G:=by
 rcases h with h|⟨g,cap,c,d,f⟩
 .exact Or.inl h
 .refine Or.inr ⟨g,cap,c,jN d k.size,fun j s i=>?_⟩;obtain ⟨b,l,m⟩:=f j s i;exact ⟨k.cell b,k.frozen b l,m⟩
def BX (w:jj) (p:Nat) (a:Int) (c:ju) (d b:Int) (f:ju) (g:Bool):Prop:=
 (w.cell? ⟨p,0,none⟩=some (.int .i64 a)/\w.cell? ⟨p,1,none⟩=some c/\w.cell? ⟨p,2,none⟩=some (.int .i64 d)/\w.cell? ⟨p,3,none⟩=some (.int .i64 b)/\w.cell? ⟨p,4,none⟩=some f/\w.cell? ⟨p,5,none⟩=some (.bool g))/\
 ∀j,w.frozen? ⟨p,j,none⟩=false
theorem BX.later {a w:jj} {p:Nat} {b:Int} {d:ju} {f c:Int} {g:ju} {i:Bool} (h:BX a p b d f c g i) (k:Aa a w):BX w p b d f c g i:=by
 obtain ⟨⟨l,m,n,o,q,r⟩,s⟩:=h;refine ⟨⟨k.cell l,k.cell m,k.cell n,k.cell o,k.cell q,k.cell r⟩,fun j=>?_⟩;rw [k.below.frozen (p:=⟨p,j,none⟩) (World.block_lt_of_cell? a ⟨p,0,none⟩ l)];exact s j
def Do (w:jj) (v:ju) (hx:Option HX):Prop:=(v= .pointer none/\hx=none)\/∃(q:Nat) (c:Ac) (a:Int) (B:List BK) (E:List EN),hx=some (c,a,B,E)/\v= .pointer (some ⟨q,0,none⟩)/\Bz w q c a B E/\Dh c a B E/\∀x∈E,Af x.2.1/\Af x.2.2
theorem Do.later {a w:jj} {v:ju} {hx:Option HX} (h:Do a v hx) (k:Aa a w):Do w v hx:=by
 rcases h with h|⟨q,c,b,B,E,d,f,g,i⟩
 .exact Or.inl h
 .exact Or.inr ⟨q,c,b,B,E,d,f,g.later k,i⟩
theorem Zdn (p:Nat) (a:Int) (d:ju) (hx:Option HX) (f b:Int) (g:ju) (i:Bool) (w:jj) (h:BX w p a d f b g i) (k:Do w d hx):
  Calls Tryz.prog 83 #[.pointer (some ⟨p,0,none⟩)] w fun e w'=>e= .returned (.int .i64 (Zcs hx))/\w=w':=by
 obtain ⟨⟨l,m,n,o,r,s⟩,t⟩:=h;rcases k with ⟨rfl,rfl⟩|⟨q,c,u,B,E,rfl,rfl,⟨v,x,_,y,_⟩,_⟩
 .go_enter Tryz.func83,Tryz.ntmps83;go_wp2;go_ret;exact ⟨rfl,rfl⟩
 .go_enter Tryz.func83,Tryz.ntmps83;go_wp2;go_ret;exact ⟨rfl,rfl⟩
theorem Of:GP ⟨#[52,49,52,49,50]⟩:=IH [52,49,52,49,50] ji
theorem Aj.five {a b c d e:Int} (f:Aj a) (g:Aj b) (i:Aj c) (k:Aj d) (l:Aj e):∀t,Aj ([a,b,c,d,e].getD t 0):=by
 intro t
 match t with
 |0=>exact f
 |1=>exact g
 |2=>exact i
 |3=>exact k
 |4=>exact l
 |_+5=>exact (show Aj 0 from ⟨ji,ji⟩)
def Gg (E:List EN) (j:Nat):ByteArray:=(E[j]?.map (·.1)).getD ByteArray.empty
theorem Eb.ids {w:jj} {c:Option Addr} {cap:Nat} {E:List EN} (d:∀j (h:j<E.length),∃g a,c=some ⟨g,a,none⟩/\w.cell? ⟨g,a+j * 3,none⟩=some (.string E[j].1)/\w.cell? ⟨g,a+j * 3+1,none⟩=some (.int .i64 E[j].2.1)/\w.cell? ⟨g,a+j * 3+2,none⟩=some (.int .i64 E[j].2.2)) (l:1<=E.length) (_:cap=cap):
  ∃g a,c=some ⟨g,a,none⟩/\∀j,j<E.length->w.cell? ⟨g,a+j * 3,none⟩=some (.string (Gg E j)):=by
 obtain ⟨g,a,f,_⟩:=d 0 l;refine ⟨g,a,f,fun j i=>?_⟩;obtain ⟨n,k,b,m,_⟩:=d j i;rw [f] at b;simp only [Option.some.injEq,Addr.mk.injEq,and_true] at b;obtain ⟨rfl,rfl⟩:=b;simpa [Gg,i] using m
theorem NK {w w':jj} {b c d f:Addr} {i k l m:ju} {g a n:Nat} {E:List EN} (h:Aa w w') (o:w.cell? b=some i) (p:w.cell? c=some k) (q:w.cell? d=some l) (r:w.cell? f=some m) (s:∀j,j<n->w.cell? ⟨g,a+j * 3,none⟩=some (.string (Gg E j))):
  Aa w w'/\w'.cell? b=some i/\w'.cell? c=some k/\w'.cell? d=some l/\w'.cell? f=some m/\∀j,j<n->w'.cell? ⟨g,a+j * 3,none⟩=some (.string (Gg E j)):=⟨h,h.cell o,h.cell p,h.cell q,h.cell r,fun j t=>h.cell (s j t)⟩
theorem Tryz.uE:Tryz.prog.underlying 146=some (.struct (Tryz.prog.fieldsOf 146)):=by kernel_rfl
theorem Tryz.sE:Tryz.prog.stoodInHeld 146=false:=by kernel_rfl
theorem Od (w:jj) (a b:jt) (x y u v:Int):(binOp .eql 146 (.agg #[.string a,.int .i64 x,.int .i64 y]) (.agg #[.string b,.int .i64 u,.int .i64 v])).run Tryz.prog w= .ok (.bool (a.toList==b.toList && (x==u && y==v))) w:=by
 rw [run_eql_struct,run_equalIn_struct w 9999 _ _ _ Tryz.uE Tryz.sE];simp [go_sem];by_cases c:a.toList=b.toList <;>by_cases d:x=u <;>by_cases f:y=v <;>simp [c,d,f]
theorem SV:GP ⟨#[52,52,52]⟩:=IH [52,52,52] ji
theorem RI:GP ⟨#[50,50,50]⟩:=IH [50,50,50] ji
def J1 (ao:Option Addr) (_L cap n h:Nat):Value:= .slice (if cap=n then ao else ao.map (·.add (n * 3))) (h - n) (cap - n)
theorem SE (a:jj) (b:Option Addr) (L cap n m:Nat) (h:n+m<=L) (f:L<=cap):
  (Instr.slice 83 (.slice b L cap) (some (.int .i64 n)) (some (.int .i64 ((L:Int) - (m:Int)))) none).run Tryz.prog a= .ok (J1 b L cap n (L - m)) a:=by
 rw [run_slice_lh (P:=Tryz.prog) a 83 b L cap (by kernel_rfl) .i64 .i64 _ _ jo jo jo];have c:((L:Int) - (m:Int)).toNat=L - m:=jo
 have d:(sizeOf (Tryz.prog.elem 83)).run Tryz.prog a= .ok 3 a:=by kernel_rfl
 rw [d];simp only [Result.andThen,sliced,J1,Int.toNat_natCast,c]
theorem Eb.cut {w:jj} {f:Option Addr} {cap n m:Nat} {E:List EN} (h:Eb w (.slice f E.length cap) E) (o:n+m<=E.length) (v:E.length<=cap):Eb w (J1 f E.length cap n (E.length - m)) ((E.drop n).take (E.length - m - n)):=by
 obtain ⟨p,i,k,b⟩:=h;simp only [Value.slice.injEq] at k;obtain ⟨rfl, -,rfl⟩:=k;have c:((E.drop n).take (E.length - m - n)).length=E.length - m - n:=jx
 refine ⟨_,_,by rw [J1,c],fun j l=>?_⟩;rw [c] at l;obtain ⟨g,a,q,r,s,t⟩:=b (n+j) jo;have d:¬cap=n:=jo
 have e:((E.drop n).take (E.length - m - n))[j]'(by rw [c];exact l)=E[n+j]'jo:=js
 rw [e];refine ⟨g,a+n * 3,?_,?_,?_,?_⟩
 .rw [if_neg d,q];simp only [Option.map_some,Addr.add];split
  .rename_i u;rw [u];rfl
  .rfl
 .rw [show a+n * 3+j * 3=a+(n+j) * 3 by omega];exact r
 .rw [show a+n * 3+j * 3+1=a+(n+j) * 3+1 by omega];exact s
 .rw [show a+n * 3+j * 3+2=a+(n+j) * 3+2 by omega];exact t
def BR (w:jj) (b:Nat) (a:List Value):Prop:=∀j v,a[j]?=some v->w.cell? ⟨b,j,none⟩=some v/\w.frozen? ⟨b,j,none⟩=false
theorem BR.but {p:Nat} {a w:jj} {b:Nat} {d:List Value} (h:BR a b d) (k:Ar p a w) (f:b≠p):BR w b d:=fun j v c=>⟨k.cell (h j v c).1 f,k.frozen (h j v c).1 (h j v c).2 f⟩
theorem BR.later {a w:jj} {b:Nat} {d:List Value} (h:BR a b d) (k:Aa a w):BR w b d:=fun j v c=>⟨k.cell (h j v c).1,k.frozen (h j v c).1 (h j v c).2⟩
theorem BR.set {w:jj} {b:Nat} {f:List Value} (h:BR w b f) (i:Nat) (u:ju):BR (w.setCell ⟨b,i,none⟩ u) b (f.set i u):=by
 intro j v a;rw [List.getElem?_set] at a;by_cases c:i=j
 .subst c;rw [if_pos rfl] at a;split at a
  .rename_i g;simp at a;subst a;have d:=h i f[i] (by simp [g]);exact ⟨Bc d.1,by rw [Ag];exact d.2⟩
  .cases a
 .rw [if_neg c] at a;have d:=h j v a;exact ⟨by rw [Ad (Or.inr c)];exact d.1,by rw [Ag];exact d.2⟩
theorem BR.alloc (w:jj) (a:List Value) (t:TypeId):BR (w.alloc (.cells a.toArray t)) w.heap.size a:=by
 intro j v b;refine ⟨?_,js⟩;rw [cell_of_row _ w.heap.size j a.toArray t (0,0) (heap_alloc_new w _)];simpa using b
theorem Am.set_x {w:jj} {v:ju} {L:List BK} {q i:Nat} {u:ju} {z:Int} (h:Am w v L) (d:w.cell? ⟨q,0,none⟩=some (.int .i64 z)):Am (w.setCell ⟨q,i,none⟩ u) v L:=by
 rcases h with h|⟨g,cap,f,k,l,c⟩
 .exact Or.inl h
 .refine Or.inr ⟨g,cap,f,k,by simpa using l,fun j x hx=>?_⟩
  have m:0<L.length:=by
   rcases Nat.eq_zero_or_pos L.length with a|a
   .rw [jS a] at hx;simp [AC] at hx
   .exact a
  have a:=c _ _ (JU L 0 m).1;simp only [Nat.zero_mul] at a;have b:q≠g:=fun e=>by subst e;rw [d] at a;cases a
  rw [Ad (Or.inl b)];exact c j x hx
theorem Cl.set_x {w:jj} {v:ju} {L:List EN} {q i:Nat} {u:ju} {z:Int} (h:Cl w v L) (d:w.cell? ⟨q,0,none⟩=some (.int .i64 z)):Cl (w.setCell ⟨q,i,none⟩ u) v L:=by
 rcases h with h|⟨g,cap,f,k,l,c⟩
 .exact Or.inl h
 .refine Or.inr ⟨g,cap,f,k,by simpa using l,fun j x hx=>?_⟩
  have m:0<L.length:=by
   rcases Nat.eq_zero_or_pos L.length with a|a
   .rw [jS a] at hx;simp [Av] at hx
   .exact a
  have a:=c _ _ (Ig L 0 m).1;simp only [Nat.zero_mul] at a;have b:q≠g:=fun e=>by subst e;rw [d] at a;cases a
  rw [Ad (Or.inl b)];exact c j x hx
theorem Bz.of_blk {w:jj} {p:Nat} {c:Ac} {a:Int} {b d:ju} {B:List BK} {E:List EN} (h:BR w p [.int .i64 c.alg,.int .i64 c.slots,.int .i64 c.points,.int .i64 c.probes,.string c.key,.int .i64 c.formats,.int .i64 a,b,d]) (f:Am w b B) (g:Cl w d E):Bz w p c a B E:=
 ⟨b,d,⟨(h 0 _ rfl).1,(h 1 _ rfl).1,(h 2 _ rfl).1,(h 3 _ rfl).1,(h 4 _ rfl).1,(h 5 _ rfl).1⟩,(h 6 _ rfl).1,(h 7 _ rfl).1,(h 8 _ rfl).1,f,g⟩
def CL (base:Nat) (w:jj) (p:Nat) (c:Ac) (a:Int) (B:List BK) (E:List EN):Prop:=∃b d,
 ((w.cell? ⟨p, 0, none⟩ = some (.int .i64 c.alg) /\ w.cell? ⟨p, 1, none⟩ = some (.int .i64 c.slots) /\ w.cell? ⟨p, 2, none⟩ = some (.int .i64 c.points) /\ w.cell? ⟨p, 3, none⟩ = some (.int .i64 c.probes) /\ w.cell? ⟨p, 4, none⟩ = some (.string c.key) /\ w.cell? ⟨p, 5, none⟩ = some (.int .i64 c.formats)) /\
 w.cell? ⟨p, 6, none⟩ = some (.int .i64 a) /\ w.cell? ⟨p, 7, none⟩ = some b /\ w.cell? ⟨p, 8, none⟩ = some d /\ Am w b B /\ Cl w d E) /\ base <= p /\ (∀ g, b.ownBlock = some g -> base <= g) /\ ∀ g, d.ownBlock = some g -> base <= g
theorem CL.state {base:Nat} {w:jj} {p:Nat} {c:Ac} {a:Int} {B:List BK} {E:List EN} (h:CL base w p c a B E):Bz w p c a B E:=by
 obtain ⟨b,d,f, -⟩:=h;exact ⟨b,d,f⟩
theorem CL.later {base:Nat} {a w:jj} {p:Nat} {c:Ac} {b:Int} {B:List BK} {E:List EN} (h:CL base a p c b B E) (k:Aa a w):CL base w p c b B E:=by
 obtain ⟨f,g,⟨⟨i,l,m,n,o,q⟩,s,t,u,v,d⟩,r⟩:=h;exact ⟨f,g,⟨⟨k.cell i,k.cell l,k.cell m,k.cell n,k.cell o,k.cell q⟩,k.cell s,k.cell t,k.cell u,v.later k,d.later k⟩,r⟩
theorem CL.of_blk {base:Nat} {w:jj} {p:Nat} {c:Ac} {a:Int} {b d:ju} {B:List BK} {E:List EN} (h:BR w p [.int .i64 c.alg,.int .i64 c.slots,.int .i64 c.points,.int .i64 c.probes,.string c.key,.int .i64 c.formats,.int .i64 a,b,d]) (f:Am w b B) (i:Cl w d E) (k:base<=p) (l:∀g,b.ownBlock=some g->base<=g) (m:∀g,d.ownBlock=some g->base<=g):CL base w p c a B E:=
 ⟨b,d,⟨⟨(h 0 _ rfl).1,(h 1 _ rfl).1,(h 2 _ rfl).1,(h 3 _ rfl).1,(h 4 _ rfl).1,(h 5 _ rfl).1⟩,(h 6 _ rfl).1,(h 7 _ rfl).1,(h 8 _ rfl).1,f,i⟩,k,l,m⟩
end Go.Proofs.YtpapdkhjdelfcaaGreat
