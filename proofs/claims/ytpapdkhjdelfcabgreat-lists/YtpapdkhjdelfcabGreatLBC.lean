import Derived.Test.YtpapdkhjdelfcabGreatLBA
namespace Go.Proofs.YtpapdkhjdelfcabGreat
open Go.RowKit
set_option maxRecDepth 100000
set_option maxHeartbeats 4000000
theorem Pu (l:List BK) (v:Value) (w:World) (hv:Am w v l) (hok:AL l):
  Calls Tryz.prog 155 #[v] w (En w fun s=>s.size≤81):=by
 obtain ⟨h8,hall⟩:=hok;rcases hv.form with ⟨rfl,rfl⟩|⟨g,cap,rfl,hcap,hg,hc⟩
 ·go_enter Tryz.func155,Tryz.ntmps155;go_wp2_with fail;refine (FM _ _ _ (by decide) (by decide) (by decide) (by decide)).mono ?_;rintro e w1 ⟨s,rfl,hb1,hs⟩;go_wp2;refine wp_loop_rounds 1 ?_;rw [rounds_succ];go_wp2;go_ret;exact ⟨_,rfl,hb1,by have:=hs;simp at this;omega⟩
 ·go_enter Tryz.func155,Tryz.ntmps155;go_wp2_with fail;refine (FM _ _ _ (by omega) (by omega) (by decide) (by decide)).mono ?_;rintro e w1 ⟨s,rfl,hb1,hs⟩;have hs1:s.size=1:=by simpa using hs
  clear hs;go_wp2;go_loopw [3,4] (fun t i wr=>∃(x:ByteArray) (k:Nat),k≤l.length∧t= .string x∧i= .int .i64 k∧x.size≤1+10 * k∧Aa w wr) (fun _ i _=>l.length - (intOf i).toNat)
  case atStart=>exact ⟨s,0,by omega,rfl,rfl,by omega,hb1⟩
  case round=>
   obtain ⟨x,k,hk,rfl,rfl,hx,hb⟩:=hrel;by_cases hlt:k<l.length
   ·obtain ⟨q1,q2⟩:=hc k hlt;have q1':=hb.cell q1;have q2':=hb.cell q2;obtain ⟨a1,a2,a3,a4⟩:=hall _ (jJ hlt);generalize l[k]=bk at *;obtain ⟨id,wt⟩:=bk;simp only at q1' q2' a1 a2 a3 a4;go_wp2_with fail;refine (FM _ _ _ (by omega) (by omega) (by decide) (by decide)).mono ?_;rintro e w2 ⟨s2,rfl,hb2,hs2⟩;have r1:=hb2.cell q1';have r2:=hb2.cell q2';have hs2':s2.size=1:=by simpa using hs2
    clear hs2;go_wp2_with fail;refine (FM _ _ _ (by omega) (by omega) (by decide) (by decide)).mono ?_;rintro e w3 ⟨s3,rfl,hb3,hs3⟩;have r3:=hb3.cell r1;have hs3':s3.size=1:=by simpa using hs3
    clear hs3;have hx2:x.size≤81:=by omega
    go_wp2;go_roundw
    case rel=>exact ⟨_,k+1,by omega,rfl,by go_num,by simp;omega,by solve_by_elim [jA,jB,jC,jD,jE]⟩
    case measure=>simp [intOf];omega
   ·go_wp2;go_ret;exact ⟨_,rfl,hb,by omega⟩
def GG (s:Int) (k:Nat):Prop:=1<s∧∀d:Nat,2≤d→d<k→s % d≠0
theorem GG.step {s:Int} {k:Nat} (h2:2≤k):GG s (k+1)↔GG s k∧s % k≠0:=by
 constructor
 ·intro ⟨h,hd⟩;exact ⟨⟨h,fun d h1 h2=>hd d h1 (by omega)⟩,hd k h2 (by omega)⟩
 ·intro ⟨⟨h,hd⟩,hk⟩;refine ⟨h,fun d h1 h2=>?_⟩;by_cases e:d=k
  ·subst e;exact hk
  ·exact hd d h1 (by omega)
theorem Mb (c:Ac) (w:World) (hc:c.Fit):
  Calls Tryz.prog 87 #[.agg c.cells] w (Ew w (Co c.OK)):=by
 obtain ⟨alg,slots,points,probes,key,formats⟩:=c;obtain ⟨⟨a1,a2⟩,⟨s1,s2⟩,⟨p1,p2⟩,⟨q1,q2⟩,⟨f1,f2⟩,hk⟩:=hc;simp only at a1 a2 s1 s2 p1 p2 q1 q2 f1 f2 hk;unfold maxLen at hk;simp only [Ac.cells];go_enter Tryz.func87,Tryz.ntmps87;go_wp2;go_loop [3,4] (fun p d=>∃(k:Nat) (x:Bool),2≤k∧k≤301∧d= .int .i64 k∧p= .bool x∧(k=2∨(k:Int)≤slots)∧Co (GG slots k) x) (fun _ d=>301 - (intOf d).toNat)
 case atStart=>exact ⟨2,_,by omega,by omega,rfl,rfl,Or.inl rfl,by unfold Co GG;simp;intro _ d h1 h2;omega⟩
 case round=>
  obtain ⟨k,x,hk2,hk3,rfl,rfl,hks,hx⟩:=hrel;by_cases hlt:(k:Int)<slots
  ·by_cases h300:(k:Int)>300
   ·clear hx;cases x
    all_goals
     go_wp2
     all_goals
      go_ret;refine ⟨_,rfl,by solve_by_elim [jA,jB,jC,jD,jE],?_⟩;constructor
      ·intro h
       first|(cases h;done)|(exfalso;omega)
      ·intro h;have:=h.2.2.2.1;simp only at this;exfalso;omega
   ·have hst:=GG.step (s:=slots) hk2;by_cases hd:slots % (k:Int)=0
    ·have hd':(slots % (k:Int) !=0)=false:=by rw [jc];exact hd
     have hF:Co (GG slots (k+1)) false:=⟨fun h=>(by cases h),fun h=>absurd hd (hst.1 h).2⟩;clear hst hd;cases x
     all_goals
      go_wp2;go_round
      case rel=>exact ⟨k+1,false,by omega,by omega,by go_num,rfl,Or.inr (by omega),hF⟩
      case measure=>simp [intOf];omega
    ·have hd':(slots % (k:Int) !=0)=true:=by rw [bne_iff_ne];exact hd
     have hF:Co (GG slots (k+1)) x:=⟨fun h=>hst.2 ⟨hx.1 h,hd⟩,fun h=>hx.2 (hst.1 h).1⟩;clear hst hd hx;cases x
     all_goals
      go_wp2;go_round
      case rel=>exact ⟨k+1,_,by omega,by omega,by go_num,rfl,Or.inr (by omega),hF⟩
      case measure=>simp [intOf];omega
  ·have hP:x=true→∀d:Nat,2≤d→(d:Int)<slots→slots % d≠0:=fun h d h1 h2=>(hx.1 h).2 d h1 (by omega)
   have hN : (∀ d : Nat, 2 ≤ d → (d : Int) < slots → slots % d ≠ 0) → 3 ≤ slots → slots ≤ 211 → x = true := fun h h3 h4 => hx.2 ⟨by omega, fun d h1 h2 => by
     exact h d h1 (by omega)⟩
   clear hx;cases x
   ·have hN':Hid (¬((∀d:Nat,2≤d→(d:Int)<slots→slots % d≠0)∧3≤slots∧slots≤211)):=fun h=>by cases hN h.1 h.2.1 h.2.2
    clear hP hN;go_wp2
    all_goals
     go_ret;refine ⟨_,rfl,by solve_by_elim [jA,jB,jC,jD,jE],?_⟩;constructor
     ·intro h
      first|(cases h;done)|(simp at h;done)
     ·intro h;exact absurd ⟨h.2.2.2.2.1,h.2.2.1,h.2.2.2.1⟩ hN'.out
   ·have hP':Hid (∀d:Nat,2≤d→(d:Int)<slots→slots % d≠0):=hP rfl;clear hP hN;go_wp2
    all_goals
     go_ret;refine ⟨_,rfl,by solve_by_elim [jA,jB,jC,jD,jE],?_⟩;constructor
     ·intro h
      first|(cases h;done)|(have h':=of_decide_eq_true h;refine ⟨?_,?_,?_,?_,hP'.out,?_,?_,?_,?_,?_,?_,?_⟩<;>simp only <;>omega)|(refine ⟨?_,?_,?_,?_,hP'.out,?_,?_,?_,?_,?_,?_,?_⟩<;>simp only <;>omega)
     ·intro h;obtain ⟨g1,g2,g3,g4,_,g6,g7,g8,g9,g10,g11,g12⟩:=h;simp only at g1 g2 g3 g4 g6 g7 g8 g9 g10 g11 g12
      first|rfl|(exfalso;omega)|(simp;omega)
def Aq (w:World) (p:Nat) (s:ByteArray) (sh:Bool):Prop:=w.cell? ⟨p,0,none⟩=some (.string s)∧w.cell? ⟨p,1,none⟩=some (.bool sh)∧w.frozen? ⟨p,0,none⟩=false∧w.frozen? ⟨p,1,none⟩=false
structure Ar (p:Nat) (w w':World):Prop where
 os:w'.os=w.os
 tape:w'.tape=w.tape
 output:w'.output=w.output
 size:w.heap.size≤w'.heap.size
 block:∀k,k<w.heap.size→k≠p→w'.heap[k]?=w.heap[k]?
theorem Ar.refl (p:Nat) (w:World):Ar p w w:=⟨rfl,rfl,rfl,jH _,fun _ _ _=>rfl⟩
theorem Ar.trans {p:Nat} {a b c:World} (h:Ar p a b) (k:Ar p b c):Ar p a c:=
 ⟨k.os.trans h.os,k.tape.trans h.tape,k.output.trans h.output,jX h.size k.size,fun i hi hp=>(k.block i (jN hi h.size) hp).trans (h.block i hi hp)⟩
theorem Ar.of_bel {p:Nat} {a b:World} (h:Aa a b):Ar p a b:=⟨h.below.os,h.below.tape,h.below.output,h.size,fun i hi _=>h.block i hi⟩
theorem Ar.cell {p:Nat} {a w:World} (h:Ar p a w) {q:Addr} {v:Value} (hc:a.cell? q=some v) (hq:q.block≠p):w.cell? q=some v:=(World.cell?_of_block (h.block q.block (World.block_lt_of_cell? a q hc) hq)).trans hc
theorem Ar.frozen {p:Nat} {a w:World} (h:Ar p a w) {q:Addr} {v:Value} (hc:a.cell? q=some v) (hf:a.frozen? q=false) (hq:q.block≠p):w.frozen? q=false:=(World.frozen?_of_block (h.block q.block (World.block_lt_of_cell? a q hc) hq)).trans hf
theorem Ar.alloc {p:Nat} {a w:World} (h:Ar p a w) (o:Obj):Ar p a (w.alloc o):=h.trans (Ar.of_bel (Aa.step_alloc (jD _) _))
theorem Ar.step_new {p:Nat} {a w:World} (h:Ar p a w) {q:Addr} (hq:a.heap.size≤q.block) (u:Value):Ar p a (w.setCell q u):=
 ⟨h.os,h.tape,h.output,by simpa using h.size,fun k hk hp=>(Below.heap_setCell _ _ _ _ (by omega)).trans (h.block k hk hp)⟩
theorem Am.but {p:Nat} {a w:World} {v:Value} {l:List BK} (h:Am a v l) (k:Ar p a w) (hp:∀g,v.ownBlock=some g→g≠p):Am w v l:=by
 rcases h with h|⟨g,cap,rfl,hn,hg,hc⟩
 ·exact Or.inl h
 ·exact Or.inr ⟨g,cap,rfl,hn,jN hg k.size,fun j u hu=>k.cell (hc j u hu) (hp g rfl)⟩
theorem Ar.set (p o:Nat) (w:World) (u:Value):Ar p w (w.setCell ⟨p,o,none⟩ u):=⟨rfl,rfl,rfl,by simp,fun k _ hp=>Below.heap_setCell _ _ _ _ hp⟩
theorem Ar.step_set {p o:Nat} {a w:World} (h:Ar p a w) (u:Value):Ar p a (w.setCell ⟨p,o,none⟩ u):=h.trans (Ar.set p o w u)
theorem Ar.bel {p:Nat} {z a b:World} (h:Ar p a b) (k:Aa z a) (hp:z.heap.size≤p):Aa z b:=
 ⟨h.os.trans k.below.os,h.tape.trans k.below.tape,h.output.trans k.below.output,jX k.size h.size,fun i hi=>(h.block i (jN hi k.size) (by omega)).trans (k.block i hi)⟩
theorem Aq.set0 {w:World} {p:Nat} {s:ByteArray} {sh:Bool} (h:Aq w p s sh) (s':ByteArray):Aq (w.setCell ⟨p,0,none⟩ (.string s')) p s' sh:=
 ⟨Bc h.1,by rw [Ad (by simp)];exact h.2.1,by rw [Ag];exact h.2.2.1,by rw [Ag];exact h.2.2.2⟩
theorem Aq.set1 {w:World} {p:Nat} {s:ByteArray} {sh:Bool} (h:Aq w p s sh) (sh':Bool):Aq (w.setCell ⟨p,1,none⟩ (.bool sh')) p s sh':=
 ⟨by rw [Ad (by simp)];exact h.1,Bc h.2.1,by rw [Ag];exact h.2.2.1,by rw [Ag];exact h.2.2.2⟩
theorem Aq.later {a w:World} {p:Nat} {s:ByteArray} {sh:Bool} (h:Aq a p s sh) (k:Aa a w):Aq w p s sh:=
 ⟨k.cell h.1,k.cell h.2.1,k.frozen h.1 h.2.2.1,k.frozen h.2.1 h.2.2.2⟩
def LX (w:World) (p:Nat) (f:Value→ByteArray→Bool→Prop) (e:Ending) (w':World):Prop:=∃v s sh,e= .returned v∧Ar p w w'∧Aq w' p s sh∧f v s sh
theorem Jr (p:Nat) (n:Int) (s:ByteArray) (sh:Bool) (w:World) (hn:0≤n) (_hn2:n≤9223372036854775807) (_hs:s.size≤maxLen) (ht:Aq w p s sh):
  Calls Tryz.prog 147 #[.pointer (some ⟨p,0,none⟩),.int .i64 n] w (LX w p fun v s' sh'=>∃x:ByteArray,v= .string x∧s'.size≤s.size∧x.size≤n.toNat∧x.size+s'.size≤s.size∧(sh'=false→sh=false∧x.size=n.toNat)):=by
 obtain ⟨c0,c1,f0,f1⟩:=ht;unfold maxLen at _hs;obtain ⟨m,rfl⟩:=jM hn;simp only [Int.toNat_natCast];by_cases h:s.size<m
 ·go_enter Tryz.func147,Tryz.ntmps147;go_wp2;go_ret;refine ⟨_,ByteArray.empty,true,rfl,?_,?_,_,rfl,Nat.zero_le _,Nat.zero_le _,Nat.zero_le _,fun h=>(by cases h)⟩
  ·exact ((Ar.refl _ _).step_set _).step_set _|>.step_set _
  ·exact (Aq.set0 (Aq.set0 (Aq.set1 ⟨c0,c1,f0,f1⟩ true) _) _)
 ·go_enter Tryz.func147,Tryz.ntmps147;go_wp2;go_ret;refine ⟨_,s.extract m s.size,sh,rfl,?_,?_,_,rfl,?_,?_,?_,?_⟩
  ·exact (Ar.refl _ _).step_set _
  ·exact Aq.set0 ⟨c0,c1,f0,f1⟩ _
  ·simp
  ·simp;omega
  ·simp;omega
  ·exact fun h=>⟨h,by simp;omega⟩
theorem Kg (x:ByteArray) (n:Nat) (h:x.size≤n):0≤BQ x.data.toList∧BQ x.data.toList<256 ^ n:=by
 have h1:=Lm x.data.toList n;have h2:=MS x.data.toList n;rw [jR (by simpa using h)] at h1 h2;exact ⟨h1,h2⟩
theorem C7 (p:Nat) (n:Int) (s:ByteArray) (sh:Bool) (w:World) (hn:0≤n) (hn2:n≤4) (hs:s.size≤maxLen) (ht:Aq w p s sh):
  Calls Tryz.prog 148 #[.pointer (some ⟨p,0,none⟩),.int .i64 n] w (LX w p fun v s' sh'=>∃r:Int,v= .int .i64 r∧s'.size≤s.size∧0≤r∧r<256 ^ n.toNat∧(sh'=false→sh=false)):=by
 go_enter Tryz.func148,Tryz.ntmps148;go_wp2_with fail;refine (Jr p n s sh _ hn (by omega) hs ht).mono ?_;rintro e w1 ⟨v,s',sh',rfl,hb1,ht1,x,rfl,h1,h2,h3,h4⟩;go_wp2_with fail;refine (Fu _ _ (by omega)).mono ?_;rintro e w2 ⟨rfl,rfl⟩;have h5:=Kg x n.toNat h2;go_wp2;go_ret;exact ⟨_,s',sh',rfl,hb1,ht1,_,rfl,h1,h5.1,h5.2,fun h=>(h4 h).1⟩
def Eb (w:World) (v:Value) (L:List EN):Prop:=∃ao cap,v= .slice ao L.length cap∧∀j (h:j<L.length),∃g off,ao=some ⟨g,off,none⟩∧w.cell? ⟨g,off+j * 3,none⟩=some (.string L[j].1)∧w.cell? ⟨g,off+j * 3+1,none⟩=some (.int .i64 L[j].2.1)∧w.cell? ⟨g,off+j * 3+2,none⟩=some (.int .i64 L[j].2.2)
theorem Eb.later {a w:World} {v:Value} {L:List EN} (h:Eb a v L) (k:Aa a w):Eb w v L:=by
 obtain ⟨ao,cap,hv,hc⟩:=h;refine ⟨ao,cap,hv,fun j hj=>?_⟩;obtain ⟨g,off,h1,h2,h3,h4⟩:=hc j hj;exact ⟨g,off,h1,k.cell h2,k.cell h3,k.cell h4⟩
theorem Cl.off {w:World} {v:Value} {L:List EN} (h:Cl w v L):Eb w v L:=by
 rcases h.form with ⟨rfl,rfl⟩|⟨g,cap,rfl,_,_,hc⟩
 ·exact ⟨none,0,rfl,fun j hj=>by simp at hj⟩
 ·refine ⟨_,cap,rfl,fun j hj=>⟨g,0,rfl,?_⟩⟩;simpa using hc j hj
def Bz (w:World) (p:Nat) (c:Ac) (gen:Int) (B:List BK) (E:List EN):Prop:=∃vB vE,
 (w.cell? ⟨p,0,none⟩=some (.int .i64 c.alg)∧w.cell? ⟨p,1,none⟩=some (.int .i64 c.slots)∧w.cell? ⟨p,2,none⟩=some (.int .i64 c.points)∧w.cell? ⟨p,3,none⟩=some (.int .i64 c.probes)∧w.cell? ⟨p,4,none⟩=some (.string c.key)∧w.cell? ⟨p,5,none⟩=some (.int .i64 c.formats))∧
 w.cell? ⟨p,6,none⟩=some (.int .i64 gen)∧w.cell? ⟨p,7,none⟩=some vB∧w.cell? ⟨p,8,none⟩=some vE∧Am w vB B∧Cl w vE E
theorem Bz.later {a w:World} {p:Nat} {c:Ac} {gen:Int} {B:List BK} {E:List EN} (h:Bz a p c gen B E) (k:Aa a w):Bz w p c gen B E:=by
 obtain ⟨vB,vE,⟨h0,h1,h2,h3,h4,h5⟩,h6,h7,h8,h9,h10⟩:=h;exact ⟨vB,vE,⟨k.cell h0,k.cell h1,k.cell h2,k.cell h3,k.cell h4,k.cell h5⟩,k.cell h6,k.cell h7,k.cell h8,h9.later k,h10.later k⟩
def EV (c:Ac):Prop:=c.alg=2∨c.alg=4
def Dh (c:Ac) (gen:Int) (B:List BK) (E:List EN):Prop:=c.OK∧Aj gen∧AL B∧E.length≤140000∧(∀x∈E,(∃b∈B,b.1=x.1))∧(¬EV c→E=[]∨(E.length:Int)=c.slots)
theorem Jq (p:Nat) (c:Ac) (gen:Int) (B:List BK) (E:List EN) (w:World) (h:Bz w p c gen B E):
  Calls Tryz.prog 150 #[.pointer (some ⟨p,0,none⟩)] w (Ew w (Co (EV c))):=by
 obtain ⟨vB,vE,⟨h0,_⟩,_⟩:=h;obtain ⟨alg,slots,points,probes,key,formats⟩:=c;simp only at h0;by_cases h2:alg=2
 ·subst h2;go_enter Tryz.func150,Tryz.ntmps150;go_wp2;go_ret;exact ⟨_,rfl,by (repeat (first|exact jD _|assumption|refine jA ?_|refine jB ?_|refine jC ?_|refine Aa.step_set ?_ (by simp <;>omega) _|refine jE ?_ (by assumption))),⟨fun _=>Or.inl rfl,fun _=>rfl⟩⟩
 ·have h2':(alg==2)=false:=by simpa using h2
  go_enter Tryz.func150,Tryz.ntmps150;go_wp2;go_ret;refine ⟨_,rfl,by (repeat (first|exact jD _|assumption|refine jA ?_|refine jB ?_|refine jC ?_|refine Aa.step_set ?_ (by simp <;>omega) _|refine jE ?_ (by assumption))),?_⟩;constructor
  ·intro h;exact Or.inr (by simpa using h)
  ·intro h;rcases h with h|h
   ·exact absurd h h2
   ·simpa using h
theorem MF (p:Nat) (c:Ac) (gen:Int) (B:List BK) (E:List EN) (id:ByteArray) (w:World) (h:Bz w p c gen B E) (hB:B.length≤8) (hid:∃b∈B,b.1=id):
  Calls Tryz.prog 194 #[.pointer (some ⟨p,0,none⟩),.string id] w (KG w (LA B.length)):=by
 obtain ⟨vB,vE,_,_,h7,_,hp,_⟩:=h;obtain ⟨b,hb,rfl⟩:=hid;obtain ⟨m,hm,rfl⟩:=List.getElem_of_mem hb;rcases hp.form with ⟨_,rfl⟩|⟨g,cap,rfl,_,hg,hc⟩
 ·exact absurd hm (by simp)
 ·go_enter Tryz.func194,Tryz.ntmps194;go_wp2;go_loopg [5] m (fun r k wr=>w=wr∧∃q:Nat,q≤m∧r=m - q∧k= .int .i64 q)
  case atStart=>exact ⟨rfl,0,by omega,by omega,rfl⟩
  case round=>
   obtain ⟨rfl,q,hq,hr,rfl⟩:=hrel;have hq':q<B.length:=by omega
   have hcell:=(hc q hq').1;by_cases he:B[q].1=B[m].1
   ·rw [he] at hcell;generalize B[m].1=id at *;clear hc;go_wp2;go_ret;exact ⟨_,rfl,by (repeat (first|exact jD _|assumption|refine jA ?_|refine jB ?_|refine jC ?_|refine Aa.step_set ?_ (by simp <;>omega) _|refine jE ?_ (by assumption))),by omega,by omega⟩
   ·have he':=Rw he
    have hlt:q<m:=by
     rcases Nat.lt_or_ge q m with h|h
     ·exact h
     ·have:q=m:=by omega
      subst this;exact absurd rfl he
    generalize B[m].1=id at *;generalize B[q].1=idq at *;clear hc;go_wp2;go_roundg (m - (q+1))
    case measure=>omega
    case rel=>exact ⟨rfl,q+1,by omega,rfl,by go_num⟩
theorem Jj {w w':World} {a0 a1:Addr} {v0 v1:Value} (h:Aa w w') (c0:w.cell? a0=some v0) (c1:w.cell? a1=some v1):Aa w w'∧w'.cell? a0=some v0∧w'.cell? a1=some v1:=⟨h,h.cell c0,h.cell c1⟩
theorem IH (l:List UInt8) (h:(l.all fun c=>decide (48≤c.toNat∧c.toNat≤57))=true):GP ⟨l.toArray⟩:=by
 intro i hi;have hi':i<l.length:=by simpa [ByteArray.size] using hi
 have:=List.all_eq_true.1 h (l[i]) (jJ hi');simpa [ByteArray.getElem_eq_getElem_data] using this
theorem U7:GP ⟨#[52,52,49]⟩:=IH [52,52,49] (by decide)
theorem Aj.three {a b c:Int} (ha:Aj a) (hb:Aj b) (hc:Aj c):∀t,Aj ([a,b,c].getD t 0):=by
 intro t
 match t with
 |0=>exact ha
 |1=>exact hb
 |2=>exact hc
 |_+3=>exact (show Aj 0 from ⟨by decide,by decide⟩)
theorem Ov (p:Nat) (c:Ac) (gen:Int) (B:List BK) (E L:List EN) (v:Value) (w:World) (h:Bz w p c gen B E) (hB:B.length≤8) (hv:Eb w v L) (hL:L.length≤140000) (hid:∀x∈L,(∃b∈B,b.1=x.1)∧Aj x.2.1∧Aj x.2.2):
  Calls Tryz.prog 156 #[.pointer (some ⟨p,0,none⟩),v] w (En w fun s=>s.size≤27 * L.length):=by
 obtain ⟨ao,cap,rfl,hc⟩:=hv;go_enter Tryz.func156,Tryz.ntmps156;go_wp2_with fail;refine (Jq p c gen B E _ h).mono ?_;rintro e w1 ⟨pb,rfl,hb1, -⟩;go_wp2_with fail;go_loopg [5,7] L.length (fun r t i wr=>∃(x:ByteArray) (k:Nat),k≤L.length∧r=L.length - k∧t= .string x∧i= .int .i64 k∧x.size≤27 * k∧Aa w wr)
 case atStart=>exact ⟨_,0,by omega,by omega,rfl,rfl,Nat.zero_le _,hb1⟩
 case round=>
  obtain ⟨x,k,hk,hr,rfl,rfl,hx,hb⟩:=hrel;by_cases hlt:k<L.length
  ·obtain ⟨g,off,rfl,q0,q1,q2⟩:=hc k hlt;have r0:=hb.cell q0;have r1:=hb.cell q1;have r2:=hb.cell q2;obtain ⟨hidk,⟨b1,b2⟩,⟨b3,b4⟩⟩:=hid _ (jJ hlt);clear hc hid q0 q1 q2;generalize L[k]=en at *;obtain ⟨id,ehi,elo⟩:=en;simp only at r0 r1 r2 hidk b1 b2 b3 b4;have hx2:x.size≤9000000:=by omega
   go_wp2_with fail;refine (MF p c gen B E id _ (h.later hb) hB hidk).mono ?_;rintro e w2 ⟨m,rfl,hb2,hm1,hm2⟩;have s1:=hb2.cell r1;have s2:=hb2.cell r2;go_wp2_with fail;refine (FM _ _ _ (by omega) (by omega) (by decide) (by decide)).mono ?_;rintro e w3 ⟨y,rfl,hb3,hy⟩;have hy2:y.size=2:=by simpa using hy
   clear hy;have t1:=hb3.cell s1;have t2:=hb3.cell s2;cases pb
   ·go_wp2_with fail;go_roundg (L.length - (k+1))
    case measure=>omega
    case rel=>exact ⟨_,k+1,by omega,rfl,rfl,by go_num,by simp;omega,by (repeat (first|exact jD _|assumption|refine jA ?_|refine jB ?_|refine jC ?_|refine Aa.step_set ?_ (by simp <;>omega) _|refine jE ?_ (by assumption)))⟩
   ·go_upto_region 9 with fail
    go_cut [9] (fun a wc=>∃z:ByteArray,a= .string z∧z.size≤27∧Aa w3 wc)
    case first=>
     go_region_held3 (fun w'=>Aa w3 w'∧w'.cell? ⟨g,off+k * 3+1,none⟩=some (.int .i64 ehi)∧w'.cell? ⟨g,off+k * 3+2,none⟩=some (.int .i64 elo)) ((refine Jj ?_ t1 t2;(repeat (first|exact jD _|assumption|refine jA ?_|refine jB ?_|refine jC ?_|refine Aa.step_set ?_ (by simp <;>omega) _|refine jE ?_ (by assumption))))) ((go_at_call 107;refine (FS _ 3 _ _ [ehi,elo,m] _ rfl (by decide) U7 (by intro t ht;match t,ht with|0,_=>simp|1,_=>simp|2,_=>simp) (Aj.three ⟨b1,b2⟩ ⟨b3,b4⟩ ⟨by omega,by omega⟩)).mono ?_;rintro e w4 ⟨z,rfl,hb4,hz⟩))
     all_goals
      go_wp2_with fail;go_meet
      case rel=>exact ⟨z,rfl,by omega,by (repeat (first|exact jD _|assumption|refine jA ?_|refine jB ?_|refine jC ?_|refine Aa.step_set ?_ (by simp <;>omega) _|refine jE ?_ (by assumption)))⟩
    case rest=>
     obtain ⟨z,rfl,hz,hbc⟩:=hcut;go_wp2_with fail;go_roundg (L.length - (k+1))
     case measure=>omega
     case rel=>exact ⟨_,k+1,by omega,rfl,rfl,by go_num,by simp;omega,by (repeat (first|exact jD _|assumption|refine jA ?_|refine jB ?_|refine jC ?_|refine Aa.step_set ?_ (by simp <;>omega) _|refine jE ?_ (by assumption)))⟩
  ·go_wp2;go_ret;exact ⟨_,rfl,hb,by omega⟩
theorem Rf:GP ⟨#[49,49,52,50,49,49]⟩:=IH [49,49,52,50,49,49] (by decide)
theorem SS {s:ByteArray} (h:Db s):Db (s++⟨#[48]⟩):=Ni (n:=48) h (Or.inl rfl)
theorem Qu (q:Nat) (h:q≤8):(2:Int) ^ q≤256:=by
 rcases (show q=0∨q=1∨q=2∨q=3∨q=4∨q=5∨q=6∨q=7∨q=8 by omega) with rfl|rfl|rfl|rfl|rfl|rfl|rfl|rfl|rfl <;>decide
theorem RO (p:Nat) (c:Ac) (gen:Int) (B:List BK) (E:List EN) (w:World) (h:Bz w p c gen B E) (n:Nat) (hn:(n=1∧B.length≤2)∨(n=2∧3≤B.length∧B.length≤4)∨(n=3∧5≤B.length∧B.length≤8)) (hL:E.length≤140000) (hid:∀x∈E,(∃b∈B,b.1=x.1)):
  Calls Tryz.prog 157 #[.pointer (some ⟨p,0,none⟩)] w (En w fun s=>s.size≤1300000):=by
 have h0:=h;obtain ⟨vB,vE,_,_,h7,h8,hpB,hpE⟩:=h
 obtain ⟨aoB,capB,rfl⟩:∃ao cap,vB= .slice ao B.length cap:=by
  rcases hpB.form with ⟨rfl,rfl⟩|⟨g,cap,rfl,_⟩
  ·exact ⟨_,_,rfl⟩
  ·exact ⟨_,_,rfl⟩
 obtain ⟨ao,cap,rfl,hc⟩:=hpE.off;clear hpB hpE;go_enter Tryz.func157,Tryz.ntmps157;go_wp2;refine wp_loop_rounds n ?_;rcases hn with ⟨rfl,hB⟩|⟨rfl,hBl,hB⟩|⟨rfl,hBl,hB⟩
 all_goals
  repeat (rw [rounds_succ];go_wp2_with fail;go_quiet (fail);go_wp2_with fail)
  refine (Jq p c gen B E _ (h0.later (by solve_by_elim [jA,jB,jC,jD,jE]))).mono ?_;rintro e w1 ⟨pb,rfl,hb1, -⟩;have hbw:Aa w w1:=by (repeat (first|exact jD _|assumption|refine jA ?_|refine jB ?_|refine jC ?_|refine Aa.step_set ?_ (by simp <;>omega) _|refine jE ?_ (by assumption)))
  clear hb1;go_wp2_with fail;go_loopg [5,6] E.length (fun r t i wr=>∃(x:ByteArray) (k:Nat),k≤E.length∧r=E.length - k∧t= .string x∧i= .int .i64 k∧x.size≤67 * k∧Db x∧Aa w wr)
  case atStart=>exact ⟨_,0,by omega,by omega,rfl,rfl,Nat.zero_le _,LM,hbw⟩
  case round=>
   obtain ⟨x,k,hk,hr,rfl,rfl,hx,h01,hb⟩:=hrel;have q8:=hb.cell h8;by_cases hlt:k<E.length
   ·obtain ⟨g,off,rfl,q0,q1,q2⟩:=hc k hlt;have r0:=hb.cell q0;have r1:=hb.cell q1;have r2:=hb.cell q2;have hidk:=hid _ (jJ hlt);clear hc hid q0 q1 q2;generalize E[k]=en at *;obtain ⟨id,ehi,elo⟩:=en;simp only at r0 r1 r2 hidk;have hx2:x.size≤9380000:=by omega
    cases pb
    ·go_wp2_with fail;refine (MF p c gen B E id _ (h0.later hb) (by omega) hidk).mono ?_;rintro e w2 ⟨m,rfl,hb2,hm1,hm2⟩;go_wp2_with fail;refine (JK _ _ _ (by decide) (by decide)).mono ?_;rintro e w3 ⟨y,rfl,hb3,hy,hy01⟩;have hy2:y.size≤3:=by have h:=hy;simp at h;omega
     clear hy;go_wp2_with fail;go_roundg (E.length - (k+1))
     case measure=>omega
     case rel=>exact ⟨_,k+1,by omega,rfl,rfl,by go_num,by simp;omega,Ib h01 hy01,by solve_by_elim [jA,jB,jC,jD,jE]⟩
    ·go_wp2_with fail;refine (JK _ _ _ (by decide) (by decide)).mono ?_;rintro e w4 ⟨y1,rfl,hb4,hy1,hy101⟩;have hz1:y1.size=32:=by simpa using hy1
     clear hy1;have s8:=hb4.cell q8;have s2:=hb4.cell r2;go_wp2_with fail;refine (JK _ _ _ (by decide) (by decide)).mono ?_;rintro e w5 ⟨y2,rfl,hb5,hy2,hy201⟩;have hz2:y2.size=32:=by simpa using hy2
     clear hy2;have t8:=hb5.cell s8;have t0:=hb5.cell (hb4.cell r0);have hb15:=(hb.trans hb4).trans hb5;go_wp2_with fail;refine (MF p c gen B E id _ (h0.later hb15) (by omega) hidk).mono ?_;rintro e w2 ⟨m,rfl,hb2,hm1,hm2⟩;go_wp2_with fail;refine (JK _ _ _ (by decide) (by decide)).mono ?_;rintro e w3 ⟨y,rfl,hb3,hy,hy01⟩;have hy2:y.size≤3:=by have h:=hy;simp at h;omega
     clear hy;go_wp2_with fail;go_roundg (E.length - (k+1))
     case measure=>omega
     case rel=>exact ⟨_,k+1,by omega,rfl,rfl,by go_num,by simp;omega,Ib (Ib (Ib h01 hy101) hy201) hy01,by solve_by_elim [jA,jB,jC,jD,jE]⟩
   ·have hx3:x.size≤9380000:=by omega
    clear hx;go_wp2_with fail;go_loopg [5] 8 (fun r t wx=>wr=wx∧∃(y:ByteArray),t= .string y∧y.size≤9380000+(8 - r)∧r≤8∧Db y∧(y.size % 8=0∨y.size % 8+r≥8))
    case atStart=>exact ⟨rfl,x,rfl,by omega,by omega,h01,by omega⟩
    case round=>
     obtain ⟨rfl,y,rfl,hy,hr8,hy01,hyr⟩:=hrel;have hyb:y.size≤9380008:=by omega
     by_cases h8m:0<y.size % 8
     ·go_wp2_with fail;go_roundg (gk - 1)
      case measure=>omega
      case rel=>exact ⟨rfl,_,rfl,by rw [jY,show (⟨#[48]⟩:ByteArray).size=1 from rfl];omega,by omega,SS hy01,by rw [jY,show (⟨#[48]⟩:ByteArray).size=1 from rfl];omega⟩
     ·have HY:Hid (y.size % 8=0):=by have h:=h8m;show _=_;omega
      have h8f:decide ((0:Int)<(y.size:Int) % 8)=false:=by simp;omega
      clear hyr hy hr8;go_wp2_with fail;clear h8m;go_loopg [11,12] (y.size / 8) (fun r t i wx=>∃(z:ByteArray) (k:Nat),k+r=y.size / 8∧t= .string z∧i= .int .i64 (8 * k)∧z.size≤k∧Aa w wx)
      case atStart=>exact ⟨_,0,by omega,rfl,rfl,Nat.zero_le _,hb⟩
      case round=>
       obtain ⟨z,k,hkr,rfl,rfl,hz,hbz⟩:=hrel;by_cases hlt:8 * k<y.size
       ·have hltb:decide (8 * (k:Int)<(y.size:Int))=true:=jL (by omega);go_wp2_with fail;go_loopg [13,14] 8 (fun r v i wx=>wr=wx∧∃(u:Int) (q:Nat),q≤8∧r=8 - q∧v= .int .i64 u∧i= .int .i64 q∧0≤u∧u<2 ^ q)
        case atStart=>exact ⟨rfl,0,0,by omega,by omega,rfl,rfl,by omega,by decide⟩
        case round=>
         obtain ⟨rfl,u,q,hq,hr,rfl,rfl,hu0,hu1⟩:=hrel;have hu2:=Qu q hq;by_cases hq8:q<8
         ·have hin:8 * k+q<y.size:=by have hY:=HY.out;omega
          have h48:=hy01 (8 * k+q) hin;have h5:(48:Int)≤(y[8 * k+q].toNat:Int):=by omega
          have h6:(y[8 * k+q].toNat:Int)≤49:=by omega
          clear h48;go_wp2_with fail;go_roundg (8 - (q+1))
          case measure=>omega
          case rel=>exact ⟨rfl,_,q+1,by omega,rfl,rfl,by go_num,by omega,by rw [Int.pow_succ];omega⟩
         ·go_wp2_with fail;refine (FM _ _ _ (by omega) (by omega) (by decide) (by decide)).mono ?_;rintro e w7 ⟨o1,rfl,hb7,ho⟩;have ho1:o1.size=1:=by simpa using ho
          clear ho;have hz2:z.size≤9380008:=by omega
          go_wp2_with fail;go_roundg (y.size / 8 - (k+1))
          case measure=>have hY:=HY.out;omega
          case rel=>exact ⟨_,k+1,by have hY:=HY.out;omega,rfl,by go_num,by simp;omega,by solve_by_elim [jA,jB,jC,jD,jE]⟩
       ·go_wp2;go_ret;exact ⟨_,rfl,hbz,by omega⟩
theorem VR (p:Nat) (c:Ac) (gen:Int) (B:List BK) (E:List EN) (w:World) (h:Bz w p c gen B E) (hB:B.length≤8) (hL:E.length≤140000) (hid:∀x∈E,(∃b∈B,b.1=x.1)):
  Calls Tryz.prog 157 #[.pointer (some ⟨p,0,none⟩)] w (En w fun s=>s.size≤1300000):=by
 exact RO p c gen B E w h (if B.length≤2 then 1 else if B.length≤4 then 2 else 3) (by split <;>(try split)<;>omega) hL hid
theorem K8 {w w':World} {a0 a1 a2 a3 a4:Addr} {v0 v1 v2 v3 v4:Value} (h:Aa w w') (c0:w.cell? a0=some v0) (c1:w.cell? a1=some v1) (c2:w.cell? a2=some v2) (c3:w.cell? a3=some v3) (c4:w.cell? a4=some v4):
  Aa w w'∧w'.cell? a0=some v0∧w'.cell? a1=some v1∧w'.cell? a2=some v2∧w'.cell? a3=some v3∧w'.cell? a4=some v4:=⟨h,h.cell c0,h.cell c1,h.cell c2,h.cell c3,h.cell c4⟩
theorem Aj.six {a b c d e f:Int} (ha:Aj a) (hb:Aj b) (hc:Aj c) (hd:Aj d) (he:Aj e) (hf:Aj f):∀t,Aj ([a,b,c,d,e,f].getD t 0):=by
 intro t
 match t with
 |0=>exact ha
 |1=>exact hb
 |2=>exact hc
 |3=>exact hd
 |4=>exact he
 |5=>exact hf
 |_+6=>exact (show Aj 0 from ⟨by decide,by decide⟩)
theorem Af.i64 {a:Int} (h:Af a):Aj a:=⟨by have:=h.1;omega,by have:=h.2;omega⟩
theorem Fw (p:Nat) (c:Ac) (gen:Int) (B:List BK) (E:List EN) (format:Int) (w:World) (h:Bz w p c gen B E) (hok:Dh c gen B E) (hf:Aj format) (hI:∀x∈E,Aj x.2.1∧Aj x.2.2):
  Calls Tryz.prog 90 #[.pointer (some ⟨p,0,none⟩),.int .i64 format] w (En w fun s=>4≤s.size∧s.size≤9000000):=by
 have h0:=h;obtain ⟨vB,vE,⟨c0,c1,c2,c3,c4,c5⟩,c6,c7,c8,hpB,hpE⟩:=h;obtain ⟨hc,hg,hB,hE,hid, -⟩:=hok;obtain ⟨k1,k2,k3,k4, -,k5,k6,k7,k8,k9, -, -⟩:=hc;obtain ⟨alg,slots,points,probes,key,formats⟩:=c;simp only at c0 c1 c2 c3 c4 c5 k1 k2 k3 k4 k5 k6 k7 k8 k9;go_enter Tryz.func90,Tryz.ntmps90;go_upto_region 1 with fail
 go_cut [5] (fun v5 wc=>∃z:ByteArray,v5= .string z∧z.size≤54∧Aa w wc)
 case first=>
  go_region_held3 (fun w'=>Aa w w'∧w'.cell? ⟨p,0,none⟩=some (.int .i64 alg)∧w'.cell? ⟨p,1,none⟩=some (.int .i64 slots)∧w'.cell? ⟨p,2,none⟩=some (.int .i64 points)∧w'.cell? ⟨p,3,none⟩=some (.int .i64 probes)∧w'.cell? ⟨p,6,none⟩=some (.int .i64 gen)) ((refine K8 ?_ c0 c1 c2 c3 c6;(repeat (first|exact jD _|assumption|refine jA ?_|refine jB ?_|refine jC ?_|refine Aa.step_set ?_ (by simp <;>omega) _|refine jE ?_ (by assumption))))) ((go_at_call 107;refine (FS _ 6 _ _ [format,alg,gen,slots,points,probes] _ rfl (by decide) Rf (by intro t ht;match t,ht with|0,_=>simp|1,_=>simp|2,_=>simp|3,_=>simp|4,_=>simp|5,_=>simp) (Aj.six hf ⟨by omega,by omega⟩ hg ⟨by omega,by omega⟩ ⟨by omega,by omega⟩ ⟨by omega,by omega⟩)).mono ?_;rintro e w4 ⟨z,rfl,hb4,hz⟩))
  all_goals
   go_wp2_with fail;go_meet
   case rel=>exact ⟨z,rfl,by omega,by (repeat (first|exact jD _|assumption|refine jA ?_|refine jB ?_|refine jC ?_|refine Aa.step_set ?_ (by simp <;>omega) _|refine jE ?_ (by assumption)))⟩
 case rest=>
  obtain ⟨z,rfl,hz,hb⟩:=hcut;have d4:=hb.cell c4;have d7:=hb.cell c7;have d8:=hb.cell c8;go_wp2_with fail;refine (Pu B vB _ (hpB.later hb) hB).mono ?_;rintro e w1 ⟨nm,rfl,hb1,hnm⟩;have hnm2:nm.size≤81:=hnm;clear hnm;have e4:=hb1.cell d4;have e8:=hb1.cell d8
  have hEl:∃ao cap,vE= .slice ao E.length cap:=by
   obtain ⟨ao,cap,hv,_⟩:=hpE.off;exact ⟨ao,cap,hv⟩
  obtain ⟨ao,cap,rfl⟩:=hEl;go_wp2_with fail;refine (FM _ _ _ (by omega) (by omega) (by decide) (by decide)).mono ?_;rintro e w2 ⟨n2,rfl,hb2,hn2⟩;have hn2':n2.size=2:=by simpa using hn2
  clear hn2;have f4:=hb2.cell e4;have f8:=hb2.cell e8;have hbA:=(hb.trans hb1).trans hb2;by_cases hf1:format=1
  ·subst hf1;go_wp2_with fail;refine (Ov p _ gen B E E _ _ (h0.later hbA) hB.1 (hpE.off.later hbA) hE (fun x hx=>⟨hid x hx,hI x hx⟩)).mono ?_;rintro e w3 ⟨bd,rfl,hb3,hbd⟩;have hbd2:bd.size≤3780000:=by have h:=hbd;omega
   clear hbd;have g4:=hb3.cell f4;go_wp2_with fail
   have hsz:(({data:=#[67,72]}:ByteArray)++z++key++nm++n2++bd).size≤8990000:=by
    simp only [jY,show (({data:=#[67,72]}:ByteArray)).size=2 from rfl];omega
   generalize (({data:=#[67,72]}:ByteArray)++z++key++nm++n2++bd)=all at *;refine (D3 all _ (by omega)).mono ?_;rintro e w5 ⟨t,rfl,hb5,ht⟩;have ht1:4≤t.size:=by have h:=ht;omega
   have ht2:t.size≤9000000:=by have h:=ht;omega
   clear ht;go_wp2;go_ret;exact ⟨_,rfl,by (repeat (first|exact jD _|assumption|refine jA ?_|refine jB ?_|refine jC ?_|refine Aa.step_set ?_ (by simp <;>omega) _|refine jE ?_ (by assumption))),ht1,ht2⟩
  ·have hf1':(format==1)=false:=by simpa using hf1
   go_wp2_with fail;refine (VR p _ gen B E _ (h0.later hbA) hB.1 hE hid).mono ?_;rintro e w3 ⟨bd,rfl,hb3,hbd⟩;have hbd2:bd.size≤3780000:=by have h:=hbd;omega
   clear hbd;have g4:=hb3.cell f4;go_wp2_with fail
   have hsz:(({data:=#[67,72]}:ByteArray)++z++key++nm++n2++bd).size≤8990000:=by
    simp only [jY,show (({data:=#[67,72]}:ByteArray)).size=2 from rfl];omega
   generalize (({data:=#[67,72]}:ByteArray)++z++key++nm++n2++bd)=all at *;refine (D3 all _ (by omega)).mono ?_;rintro e w5 ⟨t,rfl,hb5,ht⟩;have ht1:4≤t.size:=by have h:=ht;omega
   have ht2:t.size≤9000000:=by have h:=ht;omega
   clear ht;go_wp2;go_ret;exact ⟨_,rfl,by (repeat (first|exact jD _|assumption|refine jA ?_|refine jB ?_|refine jC ?_|refine Aa.step_set ?_ (by simp <;>omega) _|refine jE ?_ (by assumption))),ht1,ht2⟩
end Go.Proofs.YtpapdkhjdelfcabGreat
