import Derived.Test.YtpapdkhjdelfcaaGreatLAY
namespace Go.Proofs.YtpapdkhjdelfcaaGreat
open Go.RowKit
set_option maxRecDepth 100000
set_option maxHeartbeats 4000000
theorem Pu (l:List BK) (v:Value) (w:World) (B:Am w v l) (q:AL l):
  Calls Tryz.prog 102 #[v] w (En w fun s=>s.size<=81):=by
 obtain ⟨Q,b⟩:=q;rcases B.form with ⟨rfl,rfl⟩|⟨g,cap,rfl,y,R,C⟩
 .go_enter Tryz.func102,Tryz.ntmps102;go_wp2_with fail;refine (FM _ _ _ ji ji ji ji).mono ?_;rintro e D ⟨s,rfl,a,p⟩;go_wp2;refine wp_loop_rounds 1 ?_;rw [rounds_succ];go_wp2;go_ret;exact ⟨_,rfl,a,by have:=p;simp at this;omega⟩
 .go_enter Tryz.func102,Tryz.ntmps102;go_wp2_with fail;refine (FM _ _ _ jo jo ji ji).mono ?_;rintro e D ⟨s,rfl,a,p⟩;have E:s.size=1:=by simpa using p
  clear p;go_wp2;go_loopw [3,4] (fun t i wr=>∃(x:ByteArray) (k:Nat),k<=l.length/\t= .string x/\i= .int .i64 k/\x.size<=1+10 * k/\Aa w wr) (fun _ i _=>l.length - (intOf i).toNat)
  case atStart=>exact ⟨s,0,jo,rfl,rfl,jo,a⟩
  case round=>
   obtain ⟨x,k,S,rfl,rfl,T,r⟩:=hrel;by_cases c:k<l.length
   .obtain ⟨F,G⟩:=C k c;have d:=r.cell F;have f:=r.cell G;obtain ⟨H,I,J,K⟩:=b _ (jJ c);generalize l[k]=L at *;obtain ⟨id,U⟩:=L;simp only at d f H I J K;go_wp2_with fail;refine (FM _ _ _ jo jo ji ji).mono ?_;rintro e V ⟨M,rfl,m,n⟩;have N:=m.cell d;have W:=m.cell f;have z:M.size=1:=by simpa using n
    clear n;go_wp2_with fail;refine (FM _ _ _ jo jo ji ji).mono ?_;rintro e X ⟨O,rfl,u,o⟩;have Y:=u.cell N;have A:O.size=1:=by simpa using o
    clear o;have P:x.size<=81:=jo
    go_wp2;go_roundw
    case rel=>exact ⟨_,k+1,jo,rfl,by go_num,jx,jq⟩
    case measure=>simp [intOf];omega
   .go_wp2;go_ret;exact ⟨_,rfl,r,jo⟩
def GG (s:Int) (k:Nat):Prop:=1<s/\∀d:Nat,2<=d->d<k->s % d≠0
theorem GG.step {s:Int} {k:Nat} (a:2<=k):GG s (k+1)↔GG s k/\s % k≠0:=by
 constructor
 .intro ⟨h,hd⟩;exact ⟨⟨h,fun d b a=>hd d b jo⟩,hd k a jo⟩
 .intro ⟨⟨h,hd⟩,hk⟩;refine ⟨h,fun d b a=>?_⟩;by_cases e:d=k
  .subst e;exact hk
  .exact hd d b jo
theorem Mb (c:Ac) (w:World) (E:c.Fit):
  Calls Tryz.prog 52 #[.agg c.cells] w (Ew w (Co c.OK)):=by
 obtain ⟨alg,a,m,n,key,i⟩:=c;obtain ⟨⟨F,G⟩,⟨H,I⟩,⟨J,K⟩,⟨L,M⟩,⟨N,O⟩,B⟩:=E;simp only at F G H I J K L M N O B;unfold maxLen at B;simp only [Ac.cells];go_enter Tryz.func52,Tryz.ntmps52;go_wp2;go_loop [3,4] (fun p d=>∃(k:Nat) (x:Bool),2<=k/\k<=301/\d= .int .i64 k/\p= .bool x/\(k=2\/(k:Int)<=a)/\Co (GG a k) x) (fun _ d=>301 - (intOf d).toNat)
 case atStart=>exact ⟨2,_,jo,jo,rfl,rfl,Or.inl rfl,by unfold Co GG;simp;intro _ d o C;omega⟩
 case round=>
  obtain ⟨k,x,q,P,rfl,rfl,Q,f⟩:=hrel;by_cases R:(k:Int)<a
  .by_cases D:(k:Int)>300
   .clear f;cases x
    all_goals
     go_wp2
     all_goals
      go_ret;refine ⟨_,rfl,jq,?_⟩;constructor
      .intro h
       first|(cases h;done)|(exfalso;omega)
      .intro h;have:=h.2.2.2.1;simp only at this;exfalso;omega
   .have b:=GG.step (s:=a) q;by_cases g:a % (k:Int)=0
    .have r:(a % (k:Int) !=0)=false:=by rw [jc];exact g
     have hF:Co (GG a (k+1)) false:=⟨fun h=>(by cases h),fun h=>absurd g (b.1 h).2⟩;clear b g;cases x
     all_goals
      go_wp2;go_round
      case rel=>exact ⟨k+1,false,jo,jo,by go_num,rfl,Or.inr jo,hF⟩
      case measure=>simp [intOf];omega
    .have r:(a % (k:Int) !=0)=true:=by rw [bne_iff_ne];exact g
     have hF:Co (GG a (k+1)) x:=⟨fun h=>b.2 ⟨f.1 h,g⟩,fun h=>f.2 (b.1 h).1⟩;clear b g f;cases x
     all_goals
      go_wp2;go_round
      case rel=>exact ⟨k+1,_,jo,jo,by go_num,rfl,Or.inr jo,hF⟩
      case measure=>simp [intOf];omega
  .have t:x=true->∀d:Nat,2<=d->(d:Int)<a->a % d≠0:=fun h d o C=>(f.1 h).2 d o jo
   have u : (∀ d : Nat, 2 <= d -> (d : Int) < a -> a % d ≠ 0) -> 3 <= a -> a <= 211 -> x = true := fun h h3 h4 => f.2 ⟨jo, fun d o C => by
     exact h d o jo⟩
   clear f;cases x
   .have v:Hid (¬((∀d:Nat,2<=d->(d:Int)<a->a % d≠0)/\3<=a/\a<=211)):=fun h=>by cases u h.1 h.2.1 h.2.2
    clear t u;go_wp2
    all_goals
     go_ret;refine ⟨_,rfl,jq,?_⟩;constructor
     .intro h
      first|(cases h;done)|(simp at h;done)
     .intro h;exact absurd ⟨h.2.2.2.2.1,h.2.2.1,h.2.2.2.1⟩ v.out
   .have l:Hid (∀d:Nat,2<=d->(d:Int)<a->a % d≠0):=t rfl;clear t u;go_wp2
    all_goals
     go_ret;refine ⟨_,rfl,jq,?_⟩;constructor
     .intro h
      first|(cases h;done)|(have h':=of_decide_eq_true h;refine ⟨?_,?_,?_,?_,l.out,?_,?_,?_,?_,?_,?_,?_⟩<;>simp only <;>omega)|(refine ⟨?_,?_,?_,?_,l.out,?_,?_,?_,?_,?_,?_,?_⟩<;>simp only <;>omega)
     .intro h;obtain ⟨S,T,U,V,_,W,X,Y,Z,y,z,A⟩:=h;simp only at S T U V W X Y Z y z A
      first|rfl|(exfalso;omega)|(simp;omega)
def Aq (w:World) (p:Nat) (s:ByteArray) (sh:Bool):Prop:=w.cell? ⟨p,0,none⟩=some (.string s)/\w.cell? ⟨p,1,none⟩=some (.bool sh)/\w.frozen? ⟨p,0,none⟩=false/\w.frozen? ⟨p,1,none⟩=false
structure Ar (p:Nat) (w w':World):Prop where
 os:w'.os=w.os
 tape:w'.tape=w.tape
 output:w'.output=w.output
 size:w.heap.size<=w'.heap.size
 block:∀k,k<w.heap.size->k≠p->w'.heap[k]?=w.heap[k]?
theorem Ar.refl (p:Nat) (w:World):Ar p w w:=⟨rfl,rfl,rfl,jH _,fun _ _ _=>rfl⟩
theorem Ar.trans {p:Nat} {a b c:World} (h:Ar p a b) (k:Ar p b c):Ar p a c:=
 ⟨k.os.trans h.os,k.tape.trans h.tape,k.output.trans h.output,jX h.size k.size,fun i d f=>(k.block i (jN d h.size) f).trans (h.block i d f)⟩
theorem Ar.of_bel {p:Nat} {a b:World} (h:Aa a b):Ar p a b:=⟨h.below.os,h.below.tape,h.below.output,h.size,fun i c _=>h.block i c⟩
theorem Ar.cell {p:Nat} {a w:World} (h:Ar p a w) {q:Addr} {v:Value} (b:a.cell? q=some v) (c:q.block≠p):w.cell? q=some v:=(World.cell?_of_block (h.block q.block (World.block_lt_of_cell? a q b) c)).trans b
theorem Ar.frozen {p:Nat} {a w:World} (h:Ar p a w) {q:Addr} {v:Value} (b:a.cell? q=some v) (c:a.frozen? q=false) (d:q.block≠p):w.frozen? q=false:=(World.frozen?_of_block (h.block q.block (World.block_lt_of_cell? a q b) d)).trans c
theorem Ar.alloc {p:Nat} {a w:World} (h:Ar p a w) (o:Obj):Ar p a (w.alloc o):=h.trans (Ar.of_bel (Aa.step_alloc (jD _) _))
theorem Ar.step_new {p:Nat} {a w:World} (h:Ar p a w) {q:Addr} (d:a.heap.size<=q.block) (u:Value):Ar p a (w.setCell q u):=
 ⟨h.os,h.tape,h.output,by simpa using h.size,fun k b c=>(Below.heap_setCell _ _ _ _ jo).trans (h.block k b c)⟩
theorem Am.but {p:Nat} {a w:World} {v:Value} {l:List BK} (h:Am a v l) (k:Ar p a w) (b:∀g,v.ownBlock=some g->g≠p):Am w v l:=by
 rcases h with h|⟨g,cap,rfl,c,d,f⟩
 .exact Or.inl h
 .exact Or.inr ⟨g,cap,rfl,c,jN d k.size,fun j u i=>k.cell (f j u i) (b g rfl)⟩
theorem Ar.set (p o:Nat) (w:World) (u:Value):Ar p w (w.setCell ⟨p,o,none⟩ u):=⟨rfl,rfl,rfl,js,fun k _ a=>Below.heap_setCell _ _ _ _ a⟩
theorem Ar.step_set {p o:Nat} {a w:World} (h:Ar p a w) (u:Value):Ar p a (w.setCell ⟨p,o,none⟩ u):=h.trans (Ar.set p o w u)
theorem Ar.bel {p:Nat} {z a b:World} (h:Ar p a b) (k:Aa z a) (d:z.heap.size<=p):Aa z b:=
 ⟨h.os.trans k.below.os,h.tape.trans k.below.tape,h.output.trans k.below.output,jX k.size h.size,fun i c=>(h.block i (jN c k.size) jo).trans (k.block i c)⟩
theorem Aq.set0 {w:World} {p:Nat} {s:ByteArray} {sh:Bool} (h:Aq w p s sh) (a:ByteArray):Aq (w.setCell ⟨p,0,none⟩ (.string a)) p a sh:=
 ⟨Bc h.1,by rw [Ad js];exact h.2.1,by rw [Ag];exact h.2.2.1,by rw [Ag];exact h.2.2.2⟩
theorem Aq.set1 {w:World} {p:Nat} {s:ByteArray} {sh:Bool} (h:Aq w p s sh) (a:Bool):Aq (w.setCell ⟨p,1,none⟩ (.bool a)) p s a:=
 ⟨by rw [Ad js];exact h.1,Bc h.2.1,by rw [Ag];exact h.2.2.1,by rw [Ag];exact h.2.2.2⟩
theorem Aq.later {a w:World} {p:Nat} {s:ByteArray} {sh:Bool} (h:Aq a p s sh) (k:Aa a w):Aq w p s sh:=
 ⟨k.cell h.1,k.cell h.2.1,k.frozen h.1 h.2.2.1,k.frozen h.2.1 h.2.2.2⟩
def LX (w:World) (p:Nat) (f:Value->ByteArray->Bool->Prop) (e:Ending) (w':World):Prop:=∃v s sh,e= .returned v/\Ar p w w'/\Aq w' p s sh/\f v s sh
theorem Jr (p:Nat) (n:Int) (s:ByteArray) (sh:Bool) (w:World) (hn:0<=n) (_hn2:n<=9223372036854775807) (_hs:s.size<=maxLen) (ht:Aq w p s sh):
  Calls Tryz.prog 93 #[.pointer (some ⟨p,0,none⟩),.int .i64 n] w (LX w p fun v s' sh'=>∃x:ByteArray,v= .string x/\s'.size<=s.size/\x.size<=n.toNat/\x.size+s'.size<=s.size/\(sh'=false->sh=false/\x.size=n.toNat)):=by
 obtain ⟨c0,c1,f0,f1⟩:=ht;unfold maxLen at _hs;obtain ⟨m,rfl⟩:=jM hn;simp only [Int.toNat_natCast];by_cases h:s.size<m
 .go_enter Tryz.func93,Tryz.ntmps93;go_wp2;go_ret;refine ⟨_,ByteArray.empty,true,rfl,?_,?_,_,rfl,Nat.zero_le _,Nat.zero_le _,Nat.zero_le _,fun h=>(by cases h)⟩
  .exact ((Ar.refl _ _).step_set _).step_set _|>.step_set _
  .exact (Aq.set0 (Aq.set0 (Aq.set1 ⟨c0,c1,f0,f1⟩ true) _) _)
 .go_enter Tryz.func93,Tryz.ntmps93;go_wp2;go_ret;refine ⟨_,s.extract m s.size,sh,rfl,?_,?_,_,rfl,?_,?_,?_,?_⟩
  .exact (Ar.refl _ _).step_set _
  .exact Aq.set0 ⟨c0,c1,f0,f1⟩ _
  .simp
  .simp;omega
  .simp;omega
  .exact fun h=>⟨h,jx⟩
theorem Kg (x:ByteArray) (n:Nat) (h:x.size<=n):0<=BQ x.data.toList/\BQ x.data.toList<256 ^ n:=by
 have a:=Lm x.data.toList n;have b:=MS x.data.toList n;rw [jR (by simpa using h)] at a b;exact ⟨a,b⟩
theorem C7 (p:Nat) (n:Int) (s:ByteArray) (sh:Bool) (w:World) (g:0<=n) (i:n<=4) (k:s.size<=maxLen) (l:Aq w p s sh):
  Calls Tryz.prog 94 #[.pointer (some ⟨p,0,none⟩),.int .i64 n] w (LX w p fun v b a=>∃r:Int,v= .int .i64 r/\b.size<=s.size/\0<=r/\r<256 ^ n.toNat/\(a=false->sh=false)):=by
 go_enter Tryz.func94,Tryz.ntmps94;go_wp2_with fail;refine (Jr p n s sh _ g jo k l).mono ?_;rintro e t ⟨v,b,a,rfl,c,d,x,rfl,m,o,u,q⟩;go_wp2_with fail;refine (Fu _ _ jo).mono ?_;rintro e y ⟨rfl,rfl⟩;have f:=Kg x n.toNat o;go_wp2;go_ret;exact ⟨_,b,a,rfl,c,d,_,rfl,m,f.1,f.2,fun h=>(q h).1⟩
def Eb (w:World) (v:Value) (L:List EN):Prop:=∃b cap,v= .slice b L.length cap/\∀j (h:j<L.length),∃g a,b=some ⟨g,a,none⟩/\w.cell? ⟨g,a+j * 3,none⟩=some (.string L[j].1)/\w.cell? ⟨g,a+j * 3+1,none⟩=some (.int .i64 L[j].2.1)/\w.cell? ⟨g,a+j * 3+2,none⟩=some (.int .i64 L[j].2.2)
theorem Eb.later {a w:World} {v:Value} {L:List EN} (h:Eb a v L) (k:Aa a w):Eb w v L:=by
 obtain ⟨c,cap,d,f⟩:=h;refine ⟨c,cap,d,fun j i=>?_⟩;obtain ⟨g,b,l,m,n,o⟩:=f j i;exact ⟨g,b,l,k.cell m,k.cell n,k.cell o⟩
theorem Cl.off {w:World} {v:Value} {L:List EN} (h:Cl w v L):Eb w v L:=by
 rcases h.form with ⟨rfl,rfl⟩|⟨g,cap,rfl,_,_,b⟩
 .exact ⟨none,0,rfl,fun j a=>by simp at a⟩
 .refine ⟨_,cap,rfl,fun j a=>⟨g,0,rfl,?_⟩⟩;simpa using b j a
def Bz (w:World) (p:Nat) (c:Ac) (a:Int) (B:List BK) (E:List EN):Prop:=∃b d,
 (w.cell? ⟨p,0,none⟩=some (.int .i64 c.alg)/\w.cell? ⟨p,1,none⟩=some (.int .i64 c.slots)/\w.cell? ⟨p,2,none⟩=some (.int .i64 c.points)/\w.cell? ⟨p,3,none⟩=some (.int .i64 c.probes)/\w.cell? ⟨p,4,none⟩=some (.string c.key)/\w.cell? ⟨p,5,none⟩=some (.int .i64 c.formats))/\
 w.cell? ⟨p,6,none⟩=some (.int .i64 a)/\w.cell? ⟨p,7,none⟩=some b/\w.cell? ⟨p,8,none⟩=some d/\Am w b B/\Cl w d E
theorem Bz.later {a w:World} {p:Nat} {c:Ac} {b:Int} {B:List BK} {E:List EN} (h:Bz a p c b B E) (k:Aa a w):Bz w p c b B E:=by
 obtain ⟨f,g,⟨i,l,m,n,o,q⟩,r,s,t,u,d⟩:=h;exact ⟨f,g,⟨k.cell i,k.cell l,k.cell m,k.cell n,k.cell o,k.cell q⟩,k.cell r,k.cell s,k.cell t,u.later k,d.later k⟩
def EV (c:Ac):Prop:=c.alg=2\/c.alg=4
def Dh (c:Ac) (a:Int) (B:List BK) (E:List EN):Prop:=c.OK/\Aj a/\AL B/\E.length<=140000/\(∀x∈E,(∃b∈B,b.1=x.1))/\(¬EV c->E=[]\/(E.length:Int)=c.slots)
theorem Jq (p:Nat) (c:Ac) (f:Int) (B:List BK) (E:List EN) (w:World) (h:Bz w p c f B E):
  Calls Tryz.prog 96 #[.pointer (some ⟨p,0,none⟩)] w (Ew w (Co (EV c))):=by
 obtain ⟨m,n,⟨k,_⟩,_⟩:=h;obtain ⟨alg,g,b,d,key,a⟩:=c;simp only at k;by_cases i:alg=2
 .subst i;go_enter Tryz.func96,Tryz.ntmps96;go_wp2;go_ret;exact ⟨_,rfl,jq,⟨fun _=>Or.inl rfl,fun _=>rfl⟩⟩
 .have l:(alg==2)=false:=by simpa using i
  go_enter Tryz.func96,Tryz.ntmps96;go_wp2;go_ret;refine ⟨_,rfl,jq,?_⟩;constructor
  .intro h;exact Or.inr (by simpa using h)
  .intro h;rcases h with h|h
   .exact absurd h i
   .simpa using h
theorem MF (p:Nat) (c:Ac) (d:Int) (B:List BK) (E:List EN) (id:ByteArray) (w:World) (h:Bz w p c d B E) (y:B.length<=8) (f:∃b∈B,b.1=id):
  Calls Tryz.prog 153 #[.pointer (some ⟨p,0,none⟩),.string id] w (KG w (LA B.length)):=by
 obtain ⟨z,A,_,_,C,_,o,_⟩:=h;obtain ⟨b,s,rfl⟩:=f;obtain ⟨m,t,rfl⟩:=List.getElem_of_mem s;rcases o.form with ⟨_,rfl⟩|⟨g,cap,rfl,_,D,i⟩
 .exact absurd t js
 .go_enter Tryz.func153,Tryz.ntmps153;go_wp2;go_loopg [5] m (fun r k wr=>w=wr/\∃q:Nat,q<=m/\r=m - q/\k= .int .i64 q)
  case atStart=>exact ⟨rfl,0,jo,jo,rfl⟩
  case round=>
   obtain ⟨rfl,q,F,G,rfl⟩:=hrel;have l:q<B.length:=jo
   have a:=(i q l).1;by_cases n:B[q].1=B[m].1
   .rw [n] at a;generalize B[m].1=id at *;clear i;go_wp2;go_ret;exact ⟨_,rfl,jq,jo,jo⟩
   .have u:=Rw n
    have v:q<m:=by
     rcases Nat.lt_or_ge q m with h|h
     .exact h
     .have:q=m:=jo
      subst this;exact absurd rfl n
    generalize B[m].1=id at *;generalize B[q].1=x at *;clear i;go_wp2;go_roundg (m - (q+1))
    case measure=>omega
    case rel=>exact ⟨rfl,q+1,jo,rfl,by go_num⟩
theorem Jj {w w':World} {a b:Addr} {c d:Value} (h:Aa w w') (f:w.cell? a=some c) (g:w.cell? b=some d):Aa w w'/\w'.cell? a=some c/\w'.cell? b=some d:=⟨h,h.cell f,h.cell g⟩
theorem IH (l:List UInt8) (h:(l.all fun c=>decide (48<=c.toNat/\c.toNat<=57))=true):GP ⟨l.toArray⟩:=by
 intro i b;have a:i<l.length:=by simpa [ByteArray.size] using b
 have:=List.all_eq_true.1 h (l[i]) (jJ a);simpa [ByteArray.getElem_eq_getElem_data] using this
theorem U7:GP ⟨#[52,52,49]⟩:=IH [52,52,49] ji
theorem Aj.three {a b c:Int} (d:Aj a) (f:Aj b) (g:Aj c):∀t,Aj ([a,b,c].getD t 0):=by
 intro t
 match t with
 |0=>exact d
 |1=>exact f
 |2=>exact g
 |_+3=>exact (show Aj 0 from ⟨ji,ji⟩)
theorem Ov (p:Nat) (c:Ac) (f:Int) (B:List BK) (E L:List EN) (v:Value) (w:World) (h:Bz w p c f B E) (T:B.length<=8) (U:Eb w v L) (hL:L.length<=140000) (l:∀x∈L,(∃b∈B,b.1=x.1)/\Aj x.2.1/\Aj x.2.2):
  Calls Tryz.prog 103 #[.pointer (some ⟨p,0,none⟩),v] w (En w fun s=>s.size<=27 * L.length):=by
 obtain ⟨ao,cap,rfl,G⟩:=U;go_enter Tryz.func103,Tryz.ntmps103;go_wp2_with fail;refine (Jq p c f B E _ h).mono ?_;rintro e w1 ⟨V,rfl,F, -⟩;go_wp2_with fail;go_loopg [5,7] L.length (fun r t i wr=>∃(x:ByteArray) (k:Nat),k<=L.length/\r=L.length - k/\t= .string x/\i= .int .i64 k/\x.size<=27 * k/\Aa w wr)
 case atStart=>exact ⟨_,0,by omega,by omega,rfl,rfl,Nat.zero_le _,F⟩
 case round=>
  obtain ⟨x,k,hk,hr,rfl,rfl,hx,n⟩:=hrel;by_cases o:k<L.length
  .obtain ⟨g,q,rfl,H,I,J⟩:=G k o;have W:=n.cell H;have K:=n.cell I;have M:=n.cell J;obtain ⟨d,⟨N,O⟩,⟨P,Q⟩⟩:=l _ (jJ o);clear G l H I J;generalize L[k]=X at *;obtain ⟨id,u,A⟩:=X;simp only at W K M d N O P Q;have Y:x.size<=9000000:=by omega
   go_wp2_with fail;refine (MF p c f B E id _ (h.later n) T d).mono ?_;rintro e w2 ⟨m,rfl,C,Z,aa⟩;have s1:=C.cell K;have s2:=C.cell M;go_wp2_with fail;refine (FM _ _ _ (by omega) (by omega) (by decide) (by decide)).mono ?_;rintro e R ⟨y,rfl,D,S⟩;have ab:y.size=2:=by simpa using S
   clear S;have t1:=D.cell s1;have t2:=D.cell s2;cases V
   .go_wp2_with fail;go_roundg (L.length - (k+1))
    case measure=>omega
    case rel=>exact ⟨_,k+1,by omega,rfl,rfl,by go_num,by simp;omega,by (repeat (first|exact jD _|assumption|refine jA ?_|refine jB ?_|refine jC ?_|refine Aa.step_set ?_ (by simp <;>omega) _|refine jE ?_ (by assumption)))⟩
   .go_upto_region 9 with fail
    go_cut [9] (fun a wc=>∃z:ByteArray,a= .string z/\z.size<=27/\Aa R wc)
    case first=>
     go_region_held3 (fun w'=>Aa R w'/\w'.cell? ⟨g,q+k * 3+1,none⟩=some (.int .i64 u)/\w'.cell? ⟨g,q+k * 3+2,none⟩=some (.int .i64 A)) ((refine Jj ?_ t1 t2;(repeat (first|exact jD _|assumption|refine jA ?_|refine jB ?_|refine jC ?_|refine Aa.step_set ?_ (by simp <;>omega) _|refine jE ?_ (by assumption))))) ((go_at_call 76;refine (FS _ 3 _ _ [u,A,m] _ rfl (by decide) U7 (by intro t ht;match t,ht with|0,_=>simp|1,_=>simp|2,_=>simp) (Aj.three ⟨N,O⟩ ⟨P,Q⟩ ⟨by omega,by omega⟩)).mono ?_;rintro e w4 ⟨z,rfl,ac,hz⟩))
     all_goals
      go_wp2_with fail;go_meet
      case rel=>exact ⟨z,rfl,by omega,by (repeat (first|exact jD _|assumption|refine jA ?_|refine jB ?_|refine jC ?_|refine Aa.step_set ?_ (by simp <;>omega) _|refine jE ?_ (by assumption)))⟩
    case rest=>
     obtain ⟨z,rfl,hz,ad⟩:=hcut;go_wp2_with fail;go_roundg (L.length - (k+1))
     case measure=>omega
     case rel=>exact ⟨_,k+1,by omega,rfl,rfl,by go_num,by simp;omega,by (repeat (first|exact jD _|assumption|refine jA ?_|refine jB ?_|refine jC ?_|refine Aa.step_set ?_ (by simp <;>omega) _|refine jE ?_ (by assumption)))⟩
  .go_wp2;go_ret;exact ⟨_,rfl,n,by omega⟩
theorem Rf:GP ⟨#[49,49,52,50,49,49]⟩:=IH [49,49,52,50,49,49] ji
theorem SS {s:ByteArray} (h:Db s):Db (s++⟨#[48]⟩):=Ni (n:=48) h (Or.inl rfl)
theorem Qu (q:Nat) (h:q<=8):(2:Int) ^ q<=256:=by
 rcases (show q=0\/q=1\/q=2\/q=3\/q=4\/q=5\/q=6\/q=7\/q=8 by omega) with rfl|rfl|rfl|rfl|rfl|rfl|rfl|rfl|rfl <;>decide
theorem RO (p:Nat) (c:Ac) (f:Int) (B:List BK) (E:List EN) (w:World) (h:Bz w p c f B E) (n:Nat) (hn:(n=1/\B.length<=2)\/(n=2/\3<=B.length/\B.length<=4)\/(n=3/\5<=B.length/\B.length<=8)) (hL:E.length<=140000) (J:∀x∈E,(∃b∈B,b.1=x.1)):
  Calls Tryz.prog 104 #[.pointer (some ⟨p,0,none⟩)] w (En w fun s=>s.size<=1300000):=by
 have Q:=h;obtain ⟨vB,vE,_,_,h7,h8,K,L⟩:=h
 obtain ⟨ag,ae,rfl⟩:∃ao cap,vB= .slice ao B.length cap:=by
  rcases K.form with ⟨rfl,rfl⟩|⟨g,cap,rfl,_⟩
  .exact ⟨_,_,rfl⟩
  .exact ⟨_,_,rfl⟩
 obtain ⟨ao,cap,rfl,hc⟩:=L.off;clear K L;go_enter Tryz.func104,Tryz.ntmps104;go_wp2;refine wp_loop_rounds n ?_;rcases hn with ⟨rfl,hB⟩|⟨rfl,R,hB⟩|⟨rfl,R,hB⟩
 all_goals
  repeat (rw [rounds_succ];go_wp2_with fail;go_quiet (fail);go_wp2_with fail)
  refine (Jq p c f B E _ (Q.later (by (repeat (first|exact jD _|assumption|refine jA ?_|refine jB ?_|refine jC ?_|refine Aa.step_set ?_ (by simp <;>omega) _|refine jE ?_ (by assumption)))))).mono ?_;rintro e w1 ⟨pb,rfl,S, -⟩;have T:Aa w w1:=by (repeat (first|exact jD _|assumption|refine jA ?_|refine jB ?_|refine jC ?_|refine Aa.step_set ?_ (by simp <;>omega) _|refine jE ?_ (by assumption)))
  clear S;go_wp2_with fail;go_loopg [5,6] E.length (fun r t i wr=>∃(x:ByteArray) (k:Nat),k<=E.length/\r=E.length - k/\t= .string x/\i= .int .i64 k/\x.size<=67 * k/\Db x/\Aa w wr)
  case atStart=>exact ⟨_,0,by omega,by omega,rfl,rfl,Nat.zero_le _,LM,T⟩
  case round=>
   obtain ⟨x,k,hk,hr,rfl,rfl,hx,A,C⟩:=hrel;have q8:=C.cell h8;by_cases D:k<E.length
   .obtain ⟨g,ah,rfl,q0,q1,q2⟩:=hc k D;have r0:=C.cell q0;have r1:=C.cell q1;have r2:=C.cell q2;have d:=J _ (jJ D);clear hc J q0 q1 q2;generalize E[k]=en at *;obtain ⟨id,ai,aj⟩:=en;simp only at r0 r1 r2 d;have ak:x.size<=9380000:=by omega
    cases pb
    .go_wp2_with fail;refine (MF p c f B E id _ (Q.later C) (by omega) d).mono ?_;rintro e w2 ⟨m,rfl,U,V,W⟩;go_wp2_with fail;refine (JK _ _ _ (by decide) (by decide)).mono ?_;rintro e w3 ⟨y,rfl,X,F,a⟩;have l:y.size<=3:=by have h:=F;simp at h;omega
     clear F;go_wp2_with fail;go_roundg (E.length - (k+1))
     case measure=>omega
     case rel=>exact ⟨_,k+1,by omega,rfl,rfl,by go_num,by simp;omega,Ib A a,by (repeat (first|exact jD _|assumption|refine jA ?_|refine jB ?_|refine jC ?_|refine Aa.step_set ?_ (by simp <;>omega) _|refine jE ?_ (by assumption)))⟩
    .go_wp2_with fail;refine (JK _ _ _ (by decide) (by decide)).mono ?_;rintro e w4 ⟨y1,rfl,o,M,G⟩;have al:y1.size=32:=by simpa using M
     clear M;have s8:=o.cell q8;have s2:=o.cell r2;go_wp2_with fail;refine (JK _ _ _ (by decide) (by decide)).mono ?_;rintro e w5 ⟨y2,rfl,H,l,I⟩;have Y:y2.size=32:=by simpa using l
     clear l;have t8:=H.cell s8;have t0:=H.cell (o.cell r0);have N:=(C.trans o).trans H;go_wp2_with fail;refine (MF p c f B E id _ (Q.later N) (by omega) d).mono ?_;rintro e w2 ⟨m,rfl,U,V,W⟩;go_wp2_with fail;refine (JK _ _ _ (by decide) (by decide)).mono ?_;rintro e w3 ⟨y,rfl,X,F,a⟩;have l:y.size<=3:=by have h:=F;simp at h;omega
     clear F;go_wp2_with fail;go_roundg (E.length - (k+1))
     case measure=>omega
     case rel=>exact ⟨_,k+1,by omega,rfl,rfl,by go_num,by simp;omega,Ib (Ib (Ib A G) I) a,by (repeat (first|exact jD _|assumption|refine jA ?_|refine jB ?_|refine jC ?_|refine Aa.step_set ?_ (by simp <;>omega) _|refine jE ?_ (by assumption)))⟩
   .have am:x.size<=9380000:=by omega
    clear hx;go_wp2_with fail;go_loopg [5] 8 (fun r t O=>wr=O/\∃(y:ByteArray),t= .string y/\y.size<=9380000+(8 - r)/\r<=8/\Db y/\(y.size % 8=0\/y.size % 8+r>=8))
    case atStart=>exact ⟨rfl,x,rfl,by omega,by omega,A,by omega⟩
    case round=>
     obtain ⟨rfl,y,rfl,F,Z,a,aa⟩:=hrel;have an:y.size<=9380008:=by omega
     by_cases P:0<y.size % 8
     .go_wp2_with fail;go_roundg (gk - 1)
      case measure=>omega
      case rel=>exact ⟨rfl,_,rfl,by rw [jY,show (⟨#[48]⟩:ByteArray).size=1 from rfl];omega,by omega,SS a,by rw [jY,show (⟨#[48]⟩:ByteArray).size=1 from rfl];omega⟩
     .have HY:Hid (y.size % 8=0):=by have h:=P;show _=_;omega
      have ap:decide ((0:Int)<(y.size:Int) % 8)=false:=by simp;omega
      clear aa F Z;go_wp2_with fail;clear P;go_loopg [11,12] (y.size / 8) (fun r t i O=>∃(z:ByteArray) (k:Nat),k+r=y.size / 8/\t= .string z/\i= .int .i64 (8 * k)/\z.size<=k/\Aa w O)
      case atStart=>exact ⟨_,0,by omega,rfl,rfl,Nat.zero_le _,C⟩
      case round=>
       obtain ⟨z,k,aq,rfl,rfl,hz,ab⟩:=hrel;by_cases D:8 * k<y.size
       .have af:decide (8 * (k:Int)<(y.size:Int))=true:=jL (by omega);go_wp2_with fail;go_loopg [13,14] 8 (fun r v i O=>wr=O/\∃(u:Int) (q:Nat),q<=8/\r=8 - q/\v= .int .i64 u/\i= .int .i64 q/\0<=u/\u<2 ^ q)
        case atStart=>exact ⟨rfl,0,0,by omega,by omega,rfl,rfl,by omega,by decide⟩
        case round=>
         obtain ⟨rfl,u,q,hq,hr,rfl,rfl,ar,au⟩:=hrel;have av:=Qu q hq;by_cases aw:q<8
         .have ac:8 * k+q<y.size:=by have hY:=HY.out;omega
          have ad:=a (8 * k+q) ac;have h5:(48:Int)<=(y[8 * k+q].toNat:Int):=by omega
          have h6:(y[8 * k+q].toNat:Int)<=49:=by omega
          clear ad;go_wp2_with fail;go_roundg (8 - (q+1))
          case measure=>omega
          case rel=>exact ⟨rfl,_,q+1,by omega,rfl,rfl,by go_num,by omega,by rw [Int.pow_succ];omega⟩
         .go_wp2_with fail;refine (FM _ _ _ (by omega) (by omega) (by decide) (by decide)).mono ?_;rintro e w7 ⟨o1,rfl,ax,ho⟩;have ay:o1.size=1:=by simpa using ho
          clear ho;have Y:z.size<=9380008:=by omega
          go_wp2_with fail;go_roundg (y.size / 8 - (k+1))
          case measure=>have hY:=HY.out;omega
          case rel=>exact ⟨_,k+1,by have hY:=HY.out;omega,rfl,by go_num,by simp;omega,by (repeat (first|exact jD _|assumption|refine jA ?_|refine jB ?_|refine jC ?_|refine Aa.step_set ?_ (by simp <;>omega) _|refine jE ?_ (by assumption)))⟩
       .go_wp2;go_ret;exact ⟨_,rfl,ab,by omega⟩
theorem VR (p:Nat) (c:Ac) (a:Int) (B:List BK) (E:List EN) (w:World) (h:Bz w p c a B E) (g:B.length<=8) (f:E.length<=140000) (d:∀x∈E,(∃b∈B,b.1=x.1)):
  Calls Tryz.prog 104 #[.pointer (some ⟨p,0,none⟩)] w (En w fun s=>s.size<=1300000):=by
 exact RO p c a B E w h (if B.length<=2 then 1 else if B.length<=4 then 2 else 3) (by split <;>(try split)<;>omega) f d
theorem K8 {w w':World} {a b c d f:Addr} {g i k l m:Value} (h:Aa w w') (n:w.cell? a=some g) (o:w.cell? b=some i) (p:w.cell? c=some k) (q:w.cell? d=some l) (r:w.cell? f=some m):
  Aa w w'/\w'.cell? a=some g/\w'.cell? b=some i/\w'.cell? c=some k/\w'.cell? d=some l/\w'.cell? f=some m:=⟨h,h.cell n,h.cell o,h.cell p,h.cell q,h.cell r⟩
theorem Aj.six {a b c d e f:Int} (g:Aj a) (i:Aj b) (k:Aj c) (l:Aj d) (m:Aj e) (n:Aj f):∀t,Aj ([a,b,c,d,e,f].getD t 0):=by
 intro t
 match t with
 |0=>exact g
 |1=>exact i
 |2=>exact k
 |3=>exact l
 |4=>exact m
 |5=>exact n
 |_+6=>exact (show Aj 0 from ⟨ji,ji⟩)
theorem Af.i64 {a:Int} (h:Af a):Aj a:=⟨by have:=h.1;omega,by have:=h.2;omega⟩
theorem Fw (p:Nat) (c:Ac) (f:Int) (B:List BK) (E:List EN) (a:Int) (w:World) (h:Bz w p c f B E) (M:Dh c f B E) (hf:Aj a) (hI:∀x∈E,Aj x.2.1/\Aj x.2.2):
  Calls Tryz.prog 55 #[.pointer (some ⟨p,0,none⟩),.int .i64 a] w (En w fun s=>4<=s.size/\s.size<=9000000):=by
 have S:=h;obtain ⟨vB,vE,⟨T,U,V,W,X,c5⟩,c6,c7,c8,N,y⟩:=h;obtain ⟨hc,hg,O,Y,A, -⟩:=M;obtain ⟨k1,k2,k3,k4, -,k5,k6,k7,k8,k9, -, -⟩:=hc;obtain ⟨alg,g,b,d,key,C⟩:=c;simp only at T U V W X c5 k1 k2 k3 k4 k5 k6 k7 k8 k9;go_enter Tryz.func55,Tryz.ntmps55;go_upto_region 1 with fail
 go_cut [5] (fun v5 wc=>∃z:ByteArray,v5= .string z/\z.size<=54/\Aa w wc)
 case first=>
  go_region_held3 (fun w'=>Aa w w'/\w'.cell? ⟨p,0,none⟩=some (.int .i64 alg)/\w'.cell? ⟨p,1,none⟩=some (.int .i64 g)/\w'.cell? ⟨p,2,none⟩=some (.int .i64 b)/\w'.cell? ⟨p,3,none⟩=some (.int .i64 d)/\w'.cell? ⟨p,6,none⟩=some (.int .i64 f)) ((refine K8 ?_ T U V W c6;(repeat (first|exact jD _|assumption|refine jA ?_|refine jB ?_|refine jC ?_|refine Aa.step_set ?_ (by simp <;>omega) _|refine jE ?_ (by assumption))))) ((go_at_call 76;refine (FS _ 6 _ _ [a,alg,f,g,b,d] _ rfl (by decide) Rf (by intro t k;match t,k with|0,_=>simp|1,_=>simp|2,_=>simp|3,_=>simp|4,_=>simp|5,_=>simp) (Aj.six hf ⟨by omega,by omega⟩ hg ⟨by omega,by omega⟩ ⟨by omega,by omega⟩ ⟨by omega,by omega⟩)).mono ?_;rintro e w4 ⟨z,rfl,ac,hz⟩))
  all_goals
   go_wp2_with fail;go_meet
   case rel=>exact ⟨z,rfl,by omega,by (repeat (first|exact jD _|assumption|refine jA ?_|refine jB ?_|refine jC ?_|refine Aa.step_set ?_ (by simp <;>omega) _|refine jE ?_ (by assumption)))⟩
 case rest=>
  obtain ⟨z,rfl,hz,D⟩:=hcut;have d4:=D.cell X;have d7:=D.cell c7;have d8:=D.cell c8;go_wp2_with fail;refine (Pu B vB _ (N.later D) O).mono ?_;rintro e w1 ⟨F,rfl,l,G⟩;have Z:F.size<=81:=G;clear G;have e4:=l.cell d4;have e8:=l.cell d8
  have P:∃L cap,vE= .slice L E.length cap:=by
   obtain ⟨L,cap,hv,_⟩:=y.off;exact ⟨L,cap,hv⟩
  obtain ⟨L,cap,rfl⟩:=P;go_wp2_with fail;refine (FM _ _ _ (by omega) (by omega) (by decide) (by decide)).mono ?_;rintro e w2 ⟨H,rfl,m,I⟩;have aa:H.size=2:=by simpa using I
  clear I;have f4:=m.cell e4;have f8:=m.cell e8;have n:=(D.trans l).trans m;by_cases J:a=1
  .subst J;go_wp2_with fail;refine (Ov p _ f B E E _ _ (S.later n) O.1 (y.off.later n) Y (fun x hx=>⟨A x hx,hI x hx⟩)).mono ?_;rintro e w3 ⟨o,rfl,q,i⟩;have K:o.size<=3780000:=by have h:=i;omega
   clear i;have g4:=q.cell f4;go_wp2_with fail
   have Q:(({data:=#[67,72]}:ByteArray)++z++key++F++H++o).size<=8990000:=by
    simp only [jY,show (({data:=#[67,72]}:ByteArray)).size=2 from rfl];omega
   generalize (({data:=#[67,72]}:ByteArray)++z++key++F++H++o)=r at *;refine (D3 r _ (by omega)).mono ?_;rintro e w5 ⟨t,rfl,R,k⟩;have u:4<=t.size:=by have h:=k;omega
   have v:t.size<=9000000:=by have h:=k;omega
   clear k;go_wp2;go_ret;exact ⟨_,rfl,by (repeat (first|exact jD _|assumption|refine jA ?_|refine jB ?_|refine jC ?_|refine Aa.step_set ?_ (by simp <;>omega) _|refine jE ?_ (by assumption))),u,v⟩
  .have ab:(a==1)=false:=by simpa using J
   go_wp2_with fail;refine (VR p _ f B E _ (S.later n) O.1 Y A).mono ?_;rintro e w3 ⟨o,rfl,q,i⟩;have K:o.size<=3780000:=by have h:=i;omega
   clear i;have g4:=q.cell f4;go_wp2_with fail
   have Q:(({data:=#[67,72]}:ByteArray)++z++key++F++H++o).size<=8990000:=by
    simp only [jY,show (({data:=#[67,72]}:ByteArray)).size=2 from rfl];omega
   generalize (({data:=#[67,72]}:ByteArray)++z++key++F++H++o)=r at *;refine (D3 r _ (by omega)).mono ?_;rintro e w5 ⟨t,rfl,R,k⟩;have u:4<=t.size:=by have h:=k;omega
   have v:t.size<=9000000:=by have h:=k;omega
   clear k;go_wp2;go_ret;exact ⟨_,rfl,by (repeat (first|exact jD _|assumption|refine jA ?_|refine jB ?_|refine jC ?_|refine Aa.step_set ?_ (by simp <;>omega) _|refine jE ?_ (by assumption))),u,v⟩
end Go.Proofs.YtpapdkhjdelfcaaGreat
