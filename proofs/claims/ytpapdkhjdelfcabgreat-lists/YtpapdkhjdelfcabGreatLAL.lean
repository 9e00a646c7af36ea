import Derived.Test.YtpapdkhjdelfcabGreatLAK
import Derived.Deep.RegionHeld3
namespace Go.Proofs.YtpapdkhjdelfcabGreat
open Go.RowKit
set_option maxRecDepth 100000
set_option maxHeartbeats 4000000
def A9 (W:Nat) (X:List Bool):Option (Nat×List Bool):=if X.length<W then none else some (AD (X.take W),X.drop W)
def DU (k:Nat) (X:List Bool):Option (List UInt8×List Bool):=if X.length<8 * k then none else some (AK (X.take (8 * k)),X.drop (8 * k))
def Rs (p:Nat) (o:Option (List Bool)) (w:World):Prop:=∃X,Rd p X o.isNone w∧∀Y,o=some Y→X=Y
def BW:Option (List Bool)→Bool
 |some X=>decide (X.length<8) && decide (AD X=0)
 |none=>false
theorem Rs.some {p:Nat} {X:List Bool} {w:World} (h:Rd p X false w):Rs p (some X) w:=⟨X,h,fun Y e=>by injection e⟩
theorem Rs.none {p:Nat} {X:List Bool} {w:World} (h:Rd p X true w):Rs p none w:=⟨X,h,fun Y e=>by cases e⟩
theorem Rs.kept {p:Nat} {o:Option (List Bool)} {w w':World} (h:Rs p o w) (hb:w'.heap[p]?=w.heap[p]?):Rs p o w':=by
 obtain ⟨X,h1,h2⟩:=h;exact ⟨X,h1.kept hb,h2⟩
theorem Rs.lt {p:Nat} {o:Option (List Bool)} {w:World} (h:Rs p o w):p<w.heap.size:=by
 obtain ⟨X,h1,h2⟩:=h;exact h1.lt
def PJ (p:Nat) (k:IntKind) (W:Nat) (o:Option (List Bool)) (w:World) (e:Ending) (w':World):Prop:=
 ∃(x:Nat) (o':Option (List Bool)),e= .returned (.int k (x:Int))∧Ab [p] w w'∧Rs p o' w'∧x<2 ^ W∧o.bind (A9 W)=o'.map (Prod.mk x)
theorem Oh {p W:Nat} {o:Option (List Bool)} {X:List Bool} {w':World} (h2:∀Y,o=some Y→X=Y) (hr:Rd p (X.drop W) (o.isNone||decide (X.length<W)) w'):∃o',Rs p o' w'∧o.bind (A9 W)=o'.map (Prod.mk (AD (BZ X W))):=by
 cases o with
 |none=>exact ⟨none,Rs.none hr,rfl⟩
 |some Y=>
  obtain rfl:=h2 Y rfl;by_cases hl:X.length<W
  ·refine ⟨none,?_,by simp [A9,hl]⟩;simp [hl] at hr;exact Rs.none hr
  ·refine ⟨some (X.drop W),?_,?_⟩
   ·simp [hl] at hr;exact Rs.some hr
   ·have:=O9 X W (by omega);simp [A9,hl,this]
theorem PT (X:List Bool) (W:Nat):AD (BZ X W)<2 ^ W:=by
 have:=FG (BZ X W);rw [GV] at this;exact this
theorem Lo (p:Nat) (o:Option (List Bool)) (W:Nat) (w:World) (h:Rs p o w) (hW:W≤64):
  Calls Tryz.prog 172 #[.pointer (some ⟨p,0,none⟩),.int .i64 (W:Int)] w (PJ p .u64 W o w):=by
 obtain ⟨X,h1,h2⟩:=h;refine (LN p X _ W w h1 hW).mono ?_;rintro e w' ⟨rfl,hB,hR⟩;obtain ⟨o',k1,k2⟩:=Oh h2 hR;exact ⟨_,o',rfl,hB,k1,PT _ _,k2⟩
theorem Cp (p:Nat) (o:Option (List Bool)) (W:Nat) (w:World) (h:Rs p o w) (hW:W≤7):
  Calls Tryz.prog 119 #[.pointer (some ⟨p,0,none⟩),.int .i64 (W:Int)] w (PJ p .i64 (8 * W) o w):=by
 obtain ⟨X,h1,h2⟩:=h;refine (SZ p X _ W w h1 hW).mono ?_;rintro e w' ⟨rfl,hB,hR⟩;obtain ⟨o',k1,k2⟩:=Oh h2 hR;exact ⟨_,o',rfl,hB,k1,PT _ _,k2⟩
def LG (p:Nat) (k:Nat) (o:Option (List Bool)) (w:World) (e:Ending) (w':World):Prop:=
 ∃(l:List UInt8) (o':Option (List Bool)),e= .returned (.string (Ai l))∧Ab [p] w w'∧Rs p o' w'∧l.length≤k∧o.bind (DU k)=o'.map (Prod.mk l)
theorem Xd {p k:Nat} {o:Option (List Bool)} {X X':List Bool} {s':Bool} {l:List UInt8} {w':World} (h2:∀Y,o=some Y→X=Y) (hr:Rd p X' s' w') (hT:Gb X o.isNone k l X' s'):∃o',Rs p o' w'∧o.bind (DU k)=o'.map (Prod.mk l):=by
 obtain ⟨t1,t2,t3,t4⟩:=hT;cases o with
 |none=>
  have:=t4 (Or.inl rfl);subst this;exact ⟨none,Rs.none hr,rfl⟩
 |some Y=>
  obtain rfl:=h2 Y rfl;by_cases hl:X.length<8 * k
  ·have:=t4 (Or.inr hl);subst this;exact ⟨none,Rs.none hr,by simp [DU,hl]⟩
  ·obtain ⟨g1,g2,g3⟩:=t3 rfl (by omega);subst g3;refine ⟨some X',Rs.some hr,?_⟩
   have e:AK (Az l)=l:=by
    have:=J4 l [];simpa [AK] using this
   rw [g1] at e;simp [DU,hl,e,g2]
theorem Hf (p:Nat) (o:Option (List Bool)) (k:Nat) (w:World) (h:Rs p o w) (hW:k≤1099511627776):
  Calls Tryz.prog 118 #[.pointer (some ⟨p,0,none⟩),.int .i64 (k:Int)] w (LG p k o w):=by
 obtain ⟨X,h1,h2⟩:=h;refine (Rl p X _ k w h1 hW).mono ?_;rintro e w' ⟨l,X',s',rfl,hB,hR,hT⟩;obtain ⟨o',k1,k2⟩:=Xd h2 hR hT;exact ⟨l,o',rfl,hB,k1,hT.1,k2⟩
theorem I7 (p:Nat) (o:Option (List Bool)) (w:World) (h:Rs p o w):
  Calls Tryz.prog 120 #[.pointer (some ⟨p,0,none⟩)] w (GX w (BW o)):=by
 obtain ⟨X,h1,h2⟩:=h;have:=S8 p X _ w h1;cases o with
 |none=>simpa [EL,BW] using this
 |some Y=>
  obtain rfl:=h2 Y rfl;simpa [EL,BW] using this
theorem OQ (p:Nat) (o:Option (List Bool)) (w:World) (h:Rs p o w):
  Calls Tryz.prog 222 #[.pointer (some ⟨p,0,none⟩)] w (GX w o.isNone):=by
 obtain ⟨X,h1,h2⟩:=h;exact T8 p X _ w h1
theorem Vg (p:Nat) (o:Option (List Bool)) (k:Int) (w:World) (h:Rs p o w) (hk:k<0):
  Calls Tryz.prog 118 #[.pointer (some ⟨p,0,none⟩),.int .i64 k] w (LG p 0 o w):=by
 have HH:=jp h;clear h;have hcr:=LV (Bs:=[]) (World.ownsRow_nil (w:=w) w.heap.size 5 1);go_enter Tryz.func118,Tryz.ntmps118;go_wp2;go_loopg [5,6] 0 (fun r v d wr=>v= .slice none 0 0∧d= .int .i64 0∧wr=w)
 case atStart=>exact ⟨rfl,rfl,rfl⟩
 case round=>
  obtain ⟨rfl,rfl,rfl⟩:=hrel;go_wp2;go_ret;refine ⟨[],o,rfl,Ab.refl _ _,HH.out,by simp,?_⟩;cases o with
  |none=>rfl
  |some X=>simp [DU,AK]
def BY {α:Type} (P:List Bool→Option (α×List Bool)):Nat→List Bool→Option (List α×List Bool)
 |0,X=>some ([],X)
 |n+1,X=>(BY P n X).bind fun y=>(P y.2).map fun z=>(y.1++[z.1],z.2)
theorem VD {α:Type} {P:List Bool→Option (α×List Bool)} {X:List Bool} {k n:Nat} (h:BY P k X=none) (hk:k≤n):BY P n X=none:=by
 induction n with
 |zero=>
  obtain rfl:k=0:=by omega
  exact h
 |succ n ih=>
  by_cases hkn:k=n+1
  ·rw [←hkn];exact h
  ·rw [BY,ih (by omega)];rfl
theorem Le {α:Type} {P:List Bool→Option (α×List Bool)} {o:Option (List Bool)} {L:List α} {k n:Nat} (h:o.bind (BY P k)=none) (hk:k≤n):o.bind (BY P n)=(none:Option (List Bool)).map (Prod.mk L):=by
 cases o with
 |none=>rfl
 |some X=>exact VD h hk
theorem OE {α:Type} {P:List Bool→Option (α×List Bool)} {o o1 o2:Option (List Bool)} {L:List α} {b:α} {k:Nat} (h:o.bind (BY P k)=o1.map (Prod.mk L)) (h2:o1.bind P=o2.map (Prod.mk b)):o.bind (BY P (k+1))=o2.map (Prod.mk (L++[b])):=by
 cases o with
 |none=>
  cases o1 with
  |none=>cases o2 with
   |none=>rfl
   |some Y=>simp at h2
  |some Y=>simp at h
 |some X=>
  have h':BY P k X=o1.map (Prod.mk L):=h;show (BY P k X).bind _=_;rw [h'];cases o1 with
  |none=>cases o2 with
   |none=>rfl
   |some Y=>simp at h2
  |some Y=>
   have h2':P Y=o2.map (Prod.mk b):=h2;show (P Y).map _=_;rw [h2'];cases o2 <;>rfl
def Bo {α β:Type} (P:List Bool→Option (α×List Bool)) (Q:α→List Bool→Option (β×List Bool)) (X:List Bool):Option (β×List Bool):=(P X).bind fun y=>Q y.1 y.2
theorem Bw {α β:Type} {P:List Bool→Option (α×List Bool)} {Q:α→List Bool→Option (β×List Bool)} {o o1 o2:Option (List Bool)} {a:α} {b:β} (h:o.bind P=o1.map (Prod.mk a)) (h2:o1.bind (Q a)=o2.map (Prod.mk b)):o.bind (Bo P Q)=o2.map (Prod.mk b):=by
 cases o with
 |none=>cases o1 with
  |none=>cases o2 with
   |none=>rfl
   |some Y=>simp at h2
  |some Y=>simp at h
 |some X=>
  have h':P X=o1.map (Prod.mk a):=h;show (P X).bind _=_;rw [h'];cases o1 with
  |none=>cases o2 with
   |none=>rfl
   |some Y=>simp at h2
  |some Y=>exact h2
def DT {α:Type} (a:α) (X:List Bool):Option (α×List Bool):=some (a,X)
theorem GK {α:Type} {o:Option (List Bool)} (a:α):o.bind (DT a)=o.map (Prod.mk a):=by cases o <;>rfl
theorem Ab.setN {M:List Nat} {a w:World} (h:Ab M a w) {q:Addr} (hq:a.heap.size≤q.block) (u:Value):Ab M a (w.setCell q u):=
 Ab.mk h.os h.tape h.output (by have := h.size; simpa using this) (fun k hk hm => by
   have : (w.setCell q u).heap[k]? = w.heap[k]? := by simp only [World.setCell, Array.getElem?_modify, if_neg (by omega : q.block ≠ k)]
   exact this.trans (h.block k hk hm))
theorem Aa.sets5 {w V:World} {r:Nat} (h:Aa w V) (hr:w.heap.size≤r) (u0 u1 u2 u3 u4:Value):Aa w (((((V.setCell ⟨r,0,none⟩ u0).setCell ⟨r,1,none⟩ u1).setCell ⟨r,2,none⟩ u2).setCell ⟨r,3,none⟩ u3).setCell ⟨r,4,none⟩ u4):=
 ((((h.step_set (p:=⟨r,0,none⟩) hr _).step_set (p:=⟨r,1,none⟩) hr _).step_set (p:=⟨r,2,none⟩) hr _).step_set (p:=⟨r,3,none⟩) hr _).step_set (p:=⟨r,4,none⟩) hr _
def St (W0:World) (p:Nat) (o:Option (List Bool)) (q:Nat) (tq:TypeId) (qc:Array Value) (W:World):Prop:=Ab [p] W0 W∧Rs p o W∧Ae q tq qc W∧W0.heap.size≤q∧q≠p
theorem St.read {W0:World} {p:Nat} {o o':Option (List Bool)} {q:Nat} {tq:TypeId} {qc:Array Value} {W W':World} (h:St W0 p o q tq qc W) (hB:Ab [p] W W') (hR:Rs p o' W'):St W0 p o' q tq qc W':=
 ⟨h.1.trans hB,hR,h.2.2.1.but hB (by simpa using h.2.2.2.2),h.2.2.2⟩
theorem St.put {W0:World} {p:Nat} {o:Option (List Bool)} {q:Nat} {tq:TypeId} {qc qc':Array Value} {W:World} (h:St W0 p o q tq qc W) (j:Nat) (u:Value) (hc:qc.setIfInBounds j u=qc'):St W0 p o q tq qc' (W.setCell ⟨q,j,none⟩ u):=
 ⟨h.1.setN (q:=⟨q,j,none⟩) h.2.2.2.1 u,h.2.1.kept (by simp only [World.setCell,Array.getElem?_modify,if_neg h.2.2.2.2]),h.2.2.1.set j u hc,h.2.2.2⟩
theorem St.bel {W0:World} {p:Nat} {o:Option (List Bool)} {q:Nat} {tq:TypeId} {qc:Array Value} {W W':World} (h:St W0 p o q tq qc W) (k:Aa W W'):St W0 p o q tq qc W':=
 ⟨h.1.step k,h.2.1.kept (k.block p h.2.1.lt),h.2.2.1.bel k,h.2.2.2⟩
theorem St.rs {W0:World} {p:Nat} {o:Option (List Bool)} {q:Nat} {tq:TypeId} {qc:Array Value} {W:World} (h:St W0 p o q tq qc W):Rs p o W:=h.2.1
theorem St.box {W0:World} {p:Nat} {o:Option (List Bool)} {q:Nat} {tq:TypeId} {qc:Array Value} {W:World} (h:St W0 p o q tq qc W):Ae q tq qc W:=h.2.2.1
theorem St.new {W0:World} {p:Nat} {o:Option (List Bool)} {tq:TypeId} {qc:Array Value} {W:World} (h:Ab [p] W0 W) (hR:Rs p o W):St W0 p o W.heap.size tq qc (W.alloc (.cells qc tq)):=
 ⟨h.step ((jD W).step_alloc _),hR.kept (((jD W).step_alloc _).block p hR.lt),Ae.new W tq qc,h.size,by have:=hR.lt;omega⟩
theorem Rs.new (w:World) (b:List UInt8) (ty:TypeId):Rs w.heap.size (Option.some (Az b)) (w.alloc (.cells #[.string (Ai b),.int .u64 0,.bool false] ty)):=by
 have h:=Ae.new w ty #[.string (Ai b),.int .u64 0,.bool false];have:=Rd.new (h.cell 0 rfl) (h.cell 1 rfl) (h.cell 2 rfl) (fun j=>h.free j);rw [Fs] at this;exact Rs.some this
theorem VH (l:List UInt8):(Ai l).toList=l:=by rw [ByteArray.toList_eq];exact Fs l
theorem KK (l m:List UInt8):((Ai l).toList==m)=decide (l=m):=by rw [VH];by_cases h:l=m <;>simp [h]
def Kw:List Bool→Option (BK×List Bool):=Bo (A9 8) fun k=>Bo (DU k) fun t=>Bo (A9 8) fun x=>DT (Ai t,(x:Int))
def Ie:List Bool→Option (List BK×List Bool):=Bo (A9 8) fun n=>BY Kw n
def Yr (p:Nat) (o:Option (List Bool)) (w:World) (e:Ending) (w':World):Prop:=
 ∃(B:List BK) (o':Option (List Bool)) (v:Value) (x:Bool),e= .returned (.tuple #[v,.bool x])∧Ab [p] w w'∧Rs p o' w'∧o.bind Ie=o'.map (Prod.mk B)∧(x=true↔AH B)∧(x=true→AJ w.heap.size w' v B)
theorem NY {p base:Nat} {X w5:World} {v:Value} {o:Option (List Bool)} (h:Rs p o X) (hg:X.grownBy w5 v.ownBlock) (hv:∀g,v.ownBlock=some g→base≤g) (hp:p<base):Rs p o w5:=
 h.kept (hg.block p h.lt (fun e=>by have:=hv p e.symm;omega))
theorem O5 (p:Nat) (o:Option (List Bool)) (w:World) (h:Rs p o w):
  Calls Tryz.prog 190 #[.pointer (some ⟨p,0,none⟩)] w (Yr p o w):=by
 obtain ⟨i0,hi,hz0,hz1,hz2⟩:=info_parts Tryz.infoBK;have hp:=h.lt;have H0:=jp (Cp p o 1 w h (by omega));clear h;go_enter Tryz.func190,Tryz.ntmps190;go_wp2_with fail;refine H0.out.mono ?_;rintro e w1 ⟨n,o1,rfl,hB1,hR1,hn1,hq1⟩;have hn:n≤255:=by have:(2:Nat) ^ (8 * 1)=256:=rfl;omega
 have HB1:=jp hB1;have HR1:=jp hR1;have HQ1:=jp hq1;clear hB1 hR1 hn1 hq1 H0;go_wp2_with fail;go_loopg [4,6] n (fun r u d wr=>∃(k:Nat) (L:List BK) (o':Option (List Bool)) (v:Value),v=u∧r=n - k∧k≤n∧d= .int .i64 (k:Int)∧Ab [p] w wr∧Rs p o' wr∧L.length=k∧o1.bind (BY Kw k)=o'.map (Prod.mk L)∧AJ w.heap.size wr v L)
 case atStart=>
  refine ⟨0,[],o1,_,rfl,rfl,by omega,rfl,HB1.out,HR1.out,rfl,?_,World.ownsRow_nil _ _ _ _⟩;cases o1 <;>rfl
 case round=>
  obtain ⟨k,L,o',v,rfl,hr,hkn,rfl,hB,hR,hlen,hq,hO⟩:=hrel;have HB:=jp hB;have HR:=jp hR;have HQ:=jp hq;have HO:=jp hO;have HN:=jp hlen;have Hsh:=jp (OQ p o' wr hR);have hs1:=hB.size;clear hB hR hq hO hlen HB1 HR1;have hfin:∀(oo:Option (List Bool)),o1.bind (BY Kw n)=oo.map (Prod.mk L)→o.bind Ie=oo.map (Prod.mk L):=fun oo h=>Bw HQ1.out h
  have HF:=jp hfin;clear hfin;by_cases hlt:k<n
  ·cases o' with
   |none=>
    go_wp2_with fail;refine Hsh.out.mono ?_;rintro e wq ⟨rfl,hbq⟩;replace HB:=jp (HB.out.step hbq);replace HR:=jp (HR.out.kept (hbq.block p HR.out.lt));replace HO:=jp (CV HO.out hbq);have HPr:=jp (NT L v wq (AJ.pool HO.out) (by have:=HN.out;omega));clear hbq;go_wp2_with fail;refine HPr.out.mono ?_;rintro e w9 ⟨x,rfl,hb9,hx⟩;have HX:=jp hx;have HB9:=jp (HB.out.step hb9);have HR9:=jp (HR.out.kept (hb9.block p HR.out.lt));have HO9:=jp (CV HO.out hb9);clear hx hb9 HPr;cases x
    ·go_wp2;go_ret2;exact ⟨L,none,.slice none 0 0,false,rfl,HB9.out,HR9.out,HF.out none (Le HQ.out (by omega)),by simpa using HX.out,fun h=>by cases h⟩
    ·go_wp2;go_ret2;exact ⟨L,none,v,true,rfl,HB9.out,HR9.out,HF.out none (Le HQ.out (by omega)),by simpa using HX.out,fun _=>HO9.out⟩
   |some X=>
    go_wp2_with fail;refine Hsh.out.mono ?_;rintro e wq ⟨rfl,hbq⟩;replace HB:=jp (HB.out.step hbq);replace HR:=jp (HR.out.kept (hbq.block p HR.out.lt));replace HO:=jp (CV HO.out hbq);have hvq:Hid (∀g,v.ownBlock=some g→g<wq.heap.size):=fun g hg=>(World.ownsRow.lt HO.out g hg).2
    have hvn:Hid (v.ownBlock≠some wq.heap.size):=fun e=>by have:=hvq.out _ e;omega
    have HS:=jp (St.new (tq:=75) (qc:=#[.string ⟨#[]⟩,.int .i64 0]) HB.out HR.out);replace HO:=jp (World.ownsRow.alloc HO.out (.cells #[.string ⟨#[]⟩,.int .i64 0] 75));have hsq:=hbq.size;clear hbq Hsh HB HR hvq HF;have K1:=jp (Cp p _ 1 _ HS.out.rs (by omega));go_wp2_with fail;refine K1.out.mono ?_;rintro e v1 ⟨sz,oa,rfl,hB,hR,hsz,hq1⟩;have hsz':sz≤255:=by have:(2:Nat) ^ (8 * 1)=256:=rfl;omega
    replace HS:=jp (HS.out.read hB hR);replace HO:=jp (EP HO.out hB hp);have P1:=jp hq1;clear hB hR hsz hq1 K1;have K2:=jp (Hf p _ sz _ HS.out.rs (by omega));go_wp2_with fail;refine K2.out.mono ?_;rintro e v2 ⟨t,ob,rfl,hB,hR,htl,hq2⟩;have HT:=HS.out.read hB hR;have g0:=HT.box.cell 0 rfl;have k0:=HT.box.free 0;replace HO:=jp (ownsRow_setCell_other (EP HO.out hB hp) hvn.out (a:=⟨wq.heap.size,0,none⟩) (.string (Ai t)));replace HS:=jp (HT.put 0 (.string (Ai t)) (qc':=#[.string (Ai t),.int .i64 0]) rfl);have P2:=jp hq2;clear hB hR hq2 K2 HT htl;have K3:=jp (Cp p _ 1 _ HS.out.rs (by omega));go_wp2_with fail;refine K3.out.mono ?_;rintro e v3 ⟨x,oc,rfl,hB,hR, -,hq3⟩;have HT:=HS.out.read hB hR;have g1:=HT.box.cell 1 rfl;have g2:=HT.box.cell 0 rfl;have k1:=HT.box.free 1;replace HO:=jp (ownsRow_setCell_other (EP HO.out hB hp) hvn.out (a:=⟨wq.heap.size,1,none⟩) (.int .i64 (x:Int)));replace HS:=jp (HT.put 1 (.int .i64 (x:Int)) (qc':=#[.string (Ai t),.int .i64 (x:Int)]) rfl);have P3:=jp hq3;have HQ9:Hid (o1.bind (BY Kw (k+1))=oc.map (Prod.mk (L++[(Ai t,(x:Int))]))):=OE HQ.out (Bw P1.out (Bw P2.out (Bw P3.out (GK _))));have hv3:Hid (w.heap.size≤v3.heap.size):=by show _≤_;have:=HS.out.1.size;simpa using this
    clear hB hR hq3 K3 HT g0 k0 P1 P2 P3 HQ;have hL2:L.length≤255:=by have:=HN.out;omega
    go_wp2_with (first|(at_builtin;refine wpList_append_own _ rfl _ _ 58 rfl w.heap.size 75 i0 (.agg #[.string ByteArray.empty,.int .i64 0]) 2 24 Tryz.underlying58 hi hz0 hz1 hz2 rfl (by decide) _ L.length (AC L) rfl ?p1a ⟨v3.heap.size,0,none⟩ 1 1 [.string (Ai t),.int .i64 (x:Int)] rfl rfl ?da1 ?da2 ?da3 ?da4 ?da5 ?_))
    case p1a=>exact World.ownsRow.alloc HO.out _
    try (case da1=>exact C8 _ _ _ _ _ (by simp))
    case da2=>first|exact ⟨rfl,rfl⟩|exact Df rfl rfl|(intro u hu;simp at hu;rcases hu with rfl|rfl <;>rfl)
    case da3=>unfold maxLen;omega
    case da4=>omega
    case da5=>first|(have:=hv3.out;omega)|(have:=hv3.out;simp;omega)
    intro v5 w5 hown5 hgrow5 _;have HB5:=jp (Mt (HS.out.1.alloc _) hgrow5 (fun g hg=>(World.ownsRow.lt HO.out g hg).1));have HR5:=jp (NY (HS.out.rs.kept (Aa.block (Aa.step_alloc (jD _) _) p HS.out.rs.lt)) hgrow5 (fun g hg=>(World.ownsRow.lt HO.out g hg).1) hp);have HO5:Hid (AJ w.heap.size w5 v5 (L++[(Ai t,(x:Int))])):=AJ.snoc (b:=(Ai t,(x:Int))) hown5 rfl;clear hown5 hgrow5;go_wp2;go_roundg (n - (k+1))
    case measure=>omega
    case rel=>exact ⟨k+1,_,oc,_,rfl,rfl,by omega,by go_num,HB5.out,HR5.out,by simpa using HN.out,HQ9.out,HO5.out⟩
  ·obtain rfl:k=n:=by omega
   have HPr:=jp (NT L v wr (AJ.pool HO.out) (by have:=HN.out;omega));clear Hsh;go_wp2_with fail;refine HPr.out.mono ?_;rintro e w9 ⟨x,rfl,hb9,hx⟩;have HX:=jp hx;have HB9:=jp (HB.out.step hb9);have HR9:=jp (HR.out.kept (hb9.block p HR.out.lt));have HO9:=jp (CV HO.out hb9);clear hx hb9 HPr;cases x
   ·go_wp2;go_ret2;exact ⟨L,o',.slice none 0 0,false,rfl,HB9.out,HR9.out,HF.out o' HQ.out,by simpa using HX.out,fun h=>by cases h⟩
   ·go_wp2;go_ret2;exact ⟨L,o',v,true,rfl,HB9.out,HR9.out,HF.out o' HQ.out,by simpa using HX.out,fun _=>HO9.out⟩
def FB (wp wo:Nat):List Bool→Option (EI×List Bool):=Bo (A9 wp) fun x=>Bo (A9 wo) fun y=>DT ((x:Int),(y:Int))
def Jg (e:EI):Prop:=0≤e.1∧e.1<18446744073709551616∧0≤e.2∧e.2<65536
def YS (p:Nat) (o:Option (List Bool)) (wp wo n:Nat) (w:World) (e:Ending) (w':World):Prop:=
 ∃(L:List EI) (o':Option (List Bool)) (v:Value),e= .returned v∧Ab [p] w w'∧Rs p o' w'∧o.bind (BY (FB wp wo) n)=o'.map (Prod.mk L)∧AS w.heap.size w' v L∧L.length≤n∧∀e∈L,Jg e
theorem Mi {x wp : Nat} (h : x < 2 ^ wp) (hw : wp ≤ 64) : x < 18446744073709551616 := jN h (by
  have : (2 : Nat) ^ wp ≤ 2 ^ 64 := Nat.pow_le_pow_right (by decide) hw
  simpa using this)
theorem Ou {x wp : Nat} (h : x < 2 ^ wp) (hw : wp ≤ 16) : x < 65536 := jN h (by
  have : (2 : Nat) ^ wp ≤ 2 ^ 16 := Nat.pow_le_pow_right (by decide) hw
  simpa using this)
theorem NB (p:Nat) (o:Option (List Bool)) (wp wo n:Nat) (w:World) (h:Rs p o w) (h1:wp≤64) (h2:wo≤16) (hn:n≤65535):
  Calls Tryz.prog 191 #[.pointer (some ⟨p,0,none⟩),.agg #[.int .i64 (wp:Int),.int .i64 (wo:Int)],.int .i64 (n:Int)] w (YS p o wp wo n w):=by
 obtain ⟨i0,hi,hz0,hz1,hz2⟩:=info_parts Tryz.infoEI;have hp:=h.lt;obtain ⟨W0,hW0⟩:∃W0,W0=w.alloc (.cells #[.int .i64 (wp:Int),.int .i64 (wo:Int)] 219):=⟨_,rfl⟩;have HR0:Hid (Rs p o W0):=by show Rs p o W0;rw [hW0];exact h.kept (((jD w).step_alloc _).block p h.lt)
 have HX0:Hid (Ae w.heap.size 219 #[.int .i64 (wp:Int),.int .i64 (wo:Int)] W0):=by show Ae _ _ _ W0;rw [hW0];exact Ae.new _ _ _
 have hs0:W0.heap.size=w.heap.size+1:=by rw [hW0];simp
 have HBW:Hid (Aa w W0):=by show Aa w W0;rw [hW0];exact (jD w).step_alloc _
 have HS0:=jp hs0;clear h hs0;go_enter Tryz.func191,Tryz.ntmps191;go_wp2_with fail;rw [←hW0];clear hW0;go_loopg [7,8] n (fun r u d wr=>∃(k:Nat) (L:List EI) (o':Option (List Bool)) (v:Value),v=u∧r=n - k∧k≤n∧d= .int .i64 (k:Int)∧Ab [p] W0 wr∧Rs p o' wr∧L.length=k∧o.bind (BY (FB wp wo) k)=o'.map (Prod.mk L)∧AS w.heap.size wr v L∧∀e∈L,Jg e)
 case atStart=>
  refine ⟨0,[],o,_,rfl,rfl,by omega,rfl,Ab.refl _ _,HR0.out,rfl,?_,World.ownsRow_nil _ _ _ _,fun e he=>by cases he⟩;cases o <;>rfl
 case round=>
  obtain ⟨k,L,o',v,rfl,hr,hkn,rfl,hB,hR,hlen,hq,hO,hA⟩:=hrel;have HB:=jp hB;have HR:=jp hR;have HQ:=jp hq;have HO:=jp hO;have HN:=jp hlen;have HA:=jp hA;have Hsh:=jp (OQ p o' wr hR);have hs1:=hB.size;clear hB hR hq hO hlen HR0 hA;by_cases hlt:k<n
  ·cases o' with
   |none=>
    go_wp2_with fail;refine Hsh.out.mono ?_;rintro e wq ⟨rfl,hbq⟩;replace HB:=jp ((Ab.of_bel HBW.out).trans (HB.out.step hbq));replace HR:=jp (HR.out.kept (hbq.block p HR.out.lt));replace HO:=jp (CV HO.out hbq);clear hbq Hsh;go_wp2;go_ret;exact ⟨L,none,v,rfl,HB.out,HR.out,Le HQ.out (by omega),HO.out,by have:=HN.out;omega,HA.out⟩
   |some X=>
    go_wp2_with fail;refine Hsh.out.mono ?_;rintro e wq ⟨rfl,hbq⟩;replace HB:=jp (HB.out.step hbq);replace HR:=jp (HR.out.kept (hbq.block p HR.out.lt));replace HO:=jp (CV HO.out hbq);have hvq:Hid (∀g,v.ownBlock=some g→g<wq.heap.size):=fun g hg=>(World.ownsRow.lt HO.out g hg).2
    have hvn:Hid (v.ownBlock≠some wq.heap.size):=fun e=>by have:=hvq.out _ e;omega
    have HS:=jp (St.new (tq:=116) (qc:=#[.int .u64 0,.int .i64 0]) HB.out HR.out);replace HO:=jp (World.ownsRow.alloc HO.out (.cells #[.int .u64 0,.int .i64 0] 116));have hsq:=hbq.size;have hwq:w.heap.size≠wq.heap.size:=by have:=HS0.out;omega
    have hwl:w.heap.size<wq.heap.size:=by have:=HS0.out;omega
    have x0:=(HX0.out.but HB.out (by simp;omega)).cell 0 rfl;clear hbq Hsh HB HR hvq;have K1:=jp (Lo p _ wp _ HS.out.rs (by omega));go_wp2_with fail;refine K1.out.mono ?_;rintro e v1 ⟨x,oa,rfl,hB,hR,hx,hq1⟩;have HT:=HS.out.read hB hR;have g0:=HT.box.cell 0 rfl;have k0:=HT.box.free 0;have x1:=(HX0.out.but HT.1 (by simp;omega)).cell 1 rfl;replace HO:=jp (ownsRow_setCell_other (EP HO.out hB hp) hvn.out (a:=⟨wq.heap.size,0,none⟩) (.int .u64 (x:Int)));replace HS:=jp (HT.put 0 (.int .u64 (x:Int)) (qc':=#[.int .u64 (x:Int),.int .i64 0]) rfl);have P1:=jp hq1;have HX1:=jp (Mi hx h1);clear hB hR hx hq1 K1 HT x0;have K2:=jp (Lo p _ wo _ HS.out.rs (by omega));go_wp2_with fail;refine K2.out.mono ?_;rintro e v2 ⟨y,ob,rfl,hB,hR,hy,hq2⟩;have HT:=HS.out.read hB hR;have g1:=HT.box.cell 1 rfl;have g2:=HT.box.cell 0 rfl;have k1:=HT.box.free 1;have hy2:=Ou hy h2;replace HO:=jp (ownsRow_setCell_other (EP HO.out hB hp) hvn.out (a:=⟨wq.heap.size,1,none⟩) (.int .i64 (y:Int)));replace HS:=jp (HT.put 1 (.int .i64 (y:Int)) (qc':=#[.int .u64 (x:Int),.int .i64 (y:Int)]) rfl);have P2:=jp hq2;have HQ9:Hid (o.bind (BY (FB wp wo) (k+1))=ob.map (Prod.mk (L++[((x:Int),(y:Int))]))):=OE HQ.out (Bw P1.out (Bw P2.out (GK _)))
    have HA9:Hid (∀e∈L++[((x:Int),(y:Int))],Jg e):=fun e he=>by
     rcases jT.1 he with he|he
     ·exact HA.out e he
     ·obtain rfl:=jP.1 he;have:=HX1.out;exact ⟨by simp only;omega,by simp only;omega,by simp only;omega,by simp only;omega⟩
    have hv3:Hid (w.heap.size≤v2.heap.size):=by show _≤_;have:=HS.out.1.size;have:=HS0.out;simp at *;omega
    clear hB hR hq2 K2 HT g0 k0 P1 P2 HQ hy x1 HA;have hL2:L.length≤65535:=by have:=HN.out;omega
    go_wp2_with (first|(at_builtin;refine wpList_append_own _ rfl _ _ 64 rfl w.heap.size 116 i0 (.agg #[.int .u64 0,.int .i64 0]) 2 16 Tryz.underlying64 hi hz0 hz1 hz2 rfl (by decide) _ L.length (Bf L) rfl ?p1a ⟨v2.heap.size,0,none⟩ 1 1 [.int .u64 (x:Int),.int .i64 (y:Int)] rfl rfl ?da1 ?da2 ?da3 ?da4 ?da5 ?_))
    case p1a=>exact World.ownsRow.alloc HO.out _
    try (case da1=>exact C8 _ _ _ _ _ (by simp))
    case da2=>first|exact ⟨rfl,rfl⟩|exact Df rfl rfl|(intro u hu;simp at hu;rcases hu with rfl|rfl <;>rfl)
    case da3=>unfold maxLen;omega
    case da4=>omega
    case da5=>first|(have:=hv3.out;omega)|(have:=hv3.out;simp;omega)
    intro v5 w5 hown5 hgrow5 _
    have HB5 := jp (Mt (HS.out.1.alloc _) hgrow5 (fun g hg => by
      have := (World.ownsRow.lt HO.out g hg).1
      have h3 : g ≠ w.heap.size := fun e => by
        rcases HO.out.2 with ⟨g1, _⟩ | ⟨g', cap, cur, g1, _, g2, _⟩
        · rw [g1] at hg; cases hg
        · rw [g1] at hg
          have hgg : g' = w.heap.size := by rw [← e]; simpa [Value.ownBlock] using hg
          rw [hgg] at g2
          have h4 := HX0.out.but HS.out.1 (by simp; omega)
          rw [Ae, g2] at h4
          injection h4 with h4
          injection h4 with _ h4
          revert h4; decide
      have := HS0.out
      omega))
    have HR5:=jp (NY (HS.out.rs.kept (Aa.block (Aa.step_alloc (jD _) _) p HS.out.rs.lt)) hgrow5 (fun g hg=>(World.ownsRow.lt HO.out g hg).1) hp);have HO5:Hid (AS w.heap.size w5 v5 (L++[((x:Int),(y:Int))])):=AS.snoc (b:=((x:Int),(y:Int))) hown5 rfl;clear hown5 hgrow5;go_wp2;go_roundg (n - (k+1))
    case measure=>omega
    case rel=>exact ⟨k+1,_,ob,_,rfl,rfl,by omega,by go_num,HB5.out,HR5.out,by simpa using HN.out,HQ9.out,HO5.out,HA9.out⟩
  ·obtain rfl:k=n:=by omega
   clear Hsh;go_wp2;go_ret;exact ⟨L,o',v,rfl,(Ab.of_bel HBW.out).trans HB.out,HR.out,HQ.out,HO.out,by have:=HN.out;omega,HA.out⟩
def Ei (c:Ac):Int:=if c.alg=2 then c.points else 1
theorem OM (c:Ac) (w:World):Calls Tryz.prog 143 #[.agg c.cells] w (MR w (Ei c)):=by
 obtain ⟨alg,slots,points,probes,key,formats⟩:=c;unfold Ei Ac.cells;by_cases h:alg=2
 ·subst h;exact Ng slots points probes key formats w
 ·rw [if_neg h];exact N6 alg slots points probes key formats w (by simp [h])
def GM (c:Ac) (B:List BK):Int:=if As B<1 then 0 else if Fq c.alg then Ei c * As B else c.slots
theorem Pd {B:List BK} (h:AL B):0≤As B∧As B≤48:=by
 have:=Kq B (fun b hb=>(h.2 b hb).2.2) B.length;rw [jR (jH _)] at this;have:=h.1;omega
theorem Mg {c:Ac} (h:c.TOK):1≤Ei c∧Ei c≤3:=by
 obtain ⟨t1,t2,t3,t4, -,t5,t6,t7,t8,t9⟩:=h;unfold Ei;split <;>omega
theorem SL (c:Ac) (B:List BK) (v:Value) (w:World) (hP:Am w v B) (hB:AL B) (hc:c.TOK):
  Calls Tryz.prog 235 #[.agg c.cells,v] w (J0 w (GM c B)):=by
 have hcf:Hid (GM c B=if As B<1 then 0 else if Fq c.alg then Ei c * As B else c.slots):=rfl;have hle:=Pd hB;have hel:=Mg hc;have htot:=fun wx hx=>Mx B v wx hx hB
 have hea:=fun wx=>OM c wx
 have hhp:=fun wx=>Lu c.alg wx
 have HP:=jp hP;generalize Ei c=ea at *;generalize GM c B=cn at *;generalize As B=ws at *;obtain ⟨alg,slots,points,probes,key,formats⟩:=c;simp only [Ac.cells] at *;obtain ⟨b1,b2⟩:=hle;obtain ⟨b3,b4⟩:=hel;generalize Fq alg=hp at *;clear hP hB hc;obtain ⟨W0,hW0⟩:∃W0,W0=w.alloc (.cells #[.int .i64 alg,.int .i64 slots,.int .i64 points,.int .i64 probes,.string key,.int .i64 formats] 34):=⟨_,rfl⟩;have HB0:Hid (Aa w W0):=by show Aa w W0;rw [hW0];exact (jD w).step_alloc _
 have HX0:Hid (Ae w.heap.size 34 #[.int .i64 alg,.int .i64 slots,.int .i64 points,.int .i64 probes,.string key,.int .i64 formats] W0):=by show Ae _ _ _ W0;rw [hW0];exact Ae.new _ _ _
 go_enter Tryz.func235,Tryz.ntmps235;go_wp2_with fail;rw [←hW0];refine (htot _ (HP.out.later HB0.out)).mono ?_;rintro e w1 ⟨rfl,hb1⟩;have X1:=HX0.out.bel hb1;have HB1:=jp (HB0.out.trans hb1);have c0:=X1.cell 0 rfl;have c1:=X1.cell 1 rfl;have HX1:=jp X1;clear hb1 X1 HX0 HB0 hW0 htot;by_cases h1:ws<1
 ·rw [if_pos h1] at hcf;go_wp2;go_ret;exact ⟨BO hcf.out.symm,HB1.out⟩
 ·rw [if_neg h1] at hcf;have h1b:decide (ws<1)=false:=jK h1;have h1c:1≤ws:=by omega
  clear h1;go_wp2_with fail;refine (hhp _).mono ?_;rintro e w2 ⟨rfl,hb2⟩;have X2:=HX1.out.bel hb2;have d0:=X2.cell 0 rfl;have d1:=X2.cell 1 rfl;have d2:=X2.cell 2 rfl;have d3:=X2.cell 3 rfl;have d4:=X2.cell 4 rfl;have d5:=X2.cell 5 rfl;have HB2:=jp (HB1.out.trans hb2);clear X2 hb2 HX1 HB1 c0 c1;cases hp
  ·rw [if_neg (by simp)] at hcf;go_wp2;go_ret;exact ⟨BO hcf.out.symm,HB2.out⟩
  ·rw [if_pos rfl] at hcf
   have hm:ea * ws≤150:=by
    have:ea * ws≤3 * 48:=Int.mul_le_mul b4 b2 b1 (by omega);omega
   have hm0:0≤ea * ws:=Int.mul_nonneg (by omega) b1;go_wp2_with fail;refine (hea _).mono ?_;rintro e w3 ⟨rfl,hb3⟩;have HB3:=jp (HB2.out.trans hb3);clear hb3;go_wp2;go_ret;exact ⟨BO hcf.out.symm,HB3.out⟩
end Go.Proofs.YtpapdkhjdelfcabGreat
