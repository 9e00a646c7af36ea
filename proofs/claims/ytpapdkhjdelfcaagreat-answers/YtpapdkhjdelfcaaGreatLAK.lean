import Derived.Test.YtpapdkhjdelfcaaGreatLAJ
import Derived.Deep.RegionHeld3
namespace Go.Proofs.YtpapdkhjdelfcaaGreat
open Go.RowKit
set_option maxRecDepth 100000
set_option maxHeartbeats 4000000
def A9 (W:Nat) (X:List Bool):Option (Nat×List Bool):=if X.length<W then none else some (AD (X.take W),X.drop W)
def DU (k:Nat) (X:List Bool):Option (List UInt8×List Bool):=if X.length<8 * k then none else some (AK (X.take (8 * k)),X.drop (8 * k))
def Rs (p:Nat) (o:Option (List Bool)) (w:World):Prop:=∃X,Rd p X o.isNone w/\∀Y,o=some Y->X=Y
def BW:Option (List Bool)->Bool
 |some X=>decide (X.length<8) && decide (AD X=0)
 |none=>false
theorem Rs.some {p:Nat} {X:List Bool} {w:World} (h:Rd p X false w):Rs p (some X) w:=⟨X,h,fun Y e=>by injection e⟩
theorem Rs.none {p:Nat} {X:List Bool} {w:World} (h:Rd p X true w):Rs p none w:=⟨X,h,fun Y e=>by cases e⟩
theorem Rs.kept {p:Nat} {o:Option (List Bool)} {w w':World} (h:Rs p o w) (a:w'.heap[p]?=w.heap[p]?):Rs p o w':=by
 obtain ⟨X,b,c⟩:=h;exact ⟨X,b.kept a,c⟩
theorem Rs.lt {p:Nat} {o:Option (List Bool)} {w:World} (h:Rs p o w):p<w.heap.size:=by
 obtain ⟨X,a,b⟩:=h;exact a.lt
def PJ (p:Nat) (k:IntKind) (W:Nat) (o:Option (List Bool)) (w:World) (e:Ending) (w':World):Prop:=
 ∃(x:Nat) (a:Option (List Bool)),e= .returned (.int k (x:Int))/\Ab [p] w w'/\Rs p a w'/\x<2 ^ W/\o.bind (A9 W)=a.map (Prod.mk x)
theorem Oh {p W:Nat} {o:Option (List Bool)} {X:List Bool} {w':World} (d:∀Y,o=some Y->X=Y) (a:Rd p (X.drop W) (o.isNone||decide (X.length<W)) w'):∃c,Rs p c w'/\o.bind (A9 W)=c.map (Prod.mk (AD (BZ X W))):=by
 cases o with
 |none=>exact ⟨none,Rs.none a,rfl⟩
 |some Y=>
  obtain rfl:=d Y rfl;by_cases b:X.length<W
  .refine ⟨none,?_,by simp [A9,b]⟩;simp [b] at a;exact Rs.none a
  .refine ⟨some (X.drop W),?_,?_⟩
   .simp [b] at a;exact Rs.some a
   .have:=O9 X W jo;simp [A9,b,this]
theorem PT (X:List Bool) (W:Nat):AD (BZ X W)<2 ^ W:=by
 have:=FG (BZ X W);rw [GV] at this;exact this
theorem Lo (p:Nat) (o:Option (List Bool)) (W:Nat) (w:World) (h:Rs p o w) (a:W<=64):
  Calls Tryz.prog 171 #[.pointer (some ⟨p,0,none⟩),.int .i64 (W:Int)] w (PJ p .u64 W o w):=by
 obtain ⟨X,b,c⟩:=h;refine (LN p X _ W w b a).mono ?_;rintro e w' ⟨rfl,d,f⟩;obtain ⟨g,i,k⟩:=Oh c f;exact ⟨_,g,rfl,d,i,PT _ _,k⟩
theorem Cp (p:Nat) (o:Option (List Bool)) (W:Nat) (w:World) (h:Rs p o w) (a:W<=7):
  Calls Tryz.prog 122 #[.pointer (some ⟨p,0,none⟩),.int .i64 (W:Int)] w (PJ p .i64 (8 * W) o w):=by
 obtain ⟨X,b,c⟩:=h;refine (SZ p X _ W w b a).mono ?_;rintro e w' ⟨rfl,d,f⟩;obtain ⟨g,i,k⟩:=Oh c f;exact ⟨_,g,rfl,d,i,PT _ _,k⟩
def LG (p:Nat) (k:Nat) (o:Option (List Bool)) (w:World) (e:Ending) (w':World):Prop:=
 ∃(l:List UInt8) (a:Option (List Bool)),e= .returned (.string (Ai l))/\Ab [p] w w'/\Rs p a w'/\l.length<=k/\o.bind (DU k)=a.map (Prod.mk l)
theorem Xd {p k:Nat} {o:Option (List Bool)} {X a:List Bool} {d:Bool} {l:List UInt8} {w':World} (i:∀Y,o=some Y->X=Y) (b:Rd p a d w') (m:Gb X o.isNone k l a d):∃f,Rs p f w'/\o.bind (DU k)=f.map (Prod.mk l):=by
 obtain ⟨t,u,n,g⟩:=m;cases o with
 |none=>
  have:=g (Or.inl rfl);subst this;exact ⟨none,Rs.none b,rfl⟩
 |some Y=>
  obtain rfl:=i Y rfl;by_cases c:X.length<8 * k
  .have:=g (Or.inr c);subst this;exact ⟨none,Rs.none b,by simp [DU,c]⟩
  .obtain ⟨q,r,s⟩:=n rfl jo;subst s;refine ⟨some a,Rs.some b,?_⟩
   have e:AK (Az l)=l:=by
    have:=J4 l [];simpa [AK] using this
   rw [q] at e;simp [DU,c,e,r]
theorem Hf (p:Nat) (o:Option (List Bool)) (k:Nat) (w:World) (h:Rs p o w) (b:k<=1099511627776):
  Calls Tryz.prog 121 #[.pointer (some ⟨p,0,none⟩),.int .i64 (k:Int)] w (LG p k o w):=by
 obtain ⟨X,c,d⟩:=h;refine (Rl p X _ k w c b).mono ?_;rintro e w' ⟨l,q,r,rfl,f,g,a⟩;obtain ⟨i,m,n⟩:=Xd d g a;exact ⟨l,i,rfl,f,m,a.1,n⟩
theorem I7 (p:Nat) (o:Option (List Bool)) (w:World) (h:Rs p o w):
  Calls Tryz.prog 123 #[.pointer (some ⟨p,0,none⟩)] w (GX w (BW o)):=by
 obtain ⟨X,a,b⟩:=h;have:=S8 p X _ w a;cases o with
 |none=>simpa [EL,BW] using this
 |some Y=>
  obtain rfl:=b Y rfl;simpa [EL,BW] using this
theorem OQ (p:Nat) (o:Option (List Bool)) (w:World) (h:Rs p o w):
  Calls Tryz.prog 179 #[.pointer (some ⟨p,0,none⟩)] w (GX w o.isNone):=by
 obtain ⟨X,a,b⟩:=h;exact T8 p X _ w a
theorem Vg (p:Nat) (o:Option (List Bool)) (k:Int) (w:World) (h:Rs p o w) (c:k<0):
  Calls Tryz.prog 121 #[.pointer (some ⟨p,0,none⟩),.int .i64 k] w (LG p 0 o w):=by
 have a:=jp h;clear h;have b:=LV (Bs:=[]) (World.ownsRow_nil (w:=w) w.heap.size 5 1);go_enter Tryz.func121,Tryz.ntmps121;go_wp2;go_loopg [5,6] 0 (fun r v d wr=>v= .slice none 0 0/\d= .int .i64 0/\wr=w)
 case atStart=>exact ⟨rfl,rfl,rfl⟩
 case round=>
  obtain ⟨rfl,rfl,rfl⟩:=hrel;go_wp2;go_ret;refine ⟨[],o,rfl,Ab.refl _ _,a.out,js,?_⟩;cases o with
  |none=>rfl
  |some X=>simp [DU,AK]
def BY {α:Type} (P:List Bool->Option (α×List Bool)):Nat->List Bool->Option (List α×List Bool)
 |0,X=>some ([],X)
 |n+1,X=>(BY P n X).bind fun y=>(P y.2).map fun z=>(y.1++[z.1],z.2)
theorem VD {α:Type} {P:List Bool->Option (α×List Bool)} {X:List Bool} {k n:Nat} (h:BY P k X=none) (b:k<=n):BY P n X=none:=by
 induction n with
 |zero=>
  obtain rfl:k=0:=jo
  exact h
 |succ n ih=>
  by_cases a:k=n+1
  .rw [<-a];exact h
  .rw [BY,ih jo];rfl
theorem Le {α:Type} {P:List Bool->Option (α×List Bool)} {o:Option (List Bool)} {L:List α} {k n:Nat} (h:o.bind (BY P k)=none) (a:k<=n):o.bind (BY P n)=(none:Option (List Bool)).map (Prod.mk L):=by
 cases o with
 |none=>rfl
 |some X=>exact VD h a
theorem OE {α:Type} {P:List Bool->Option (α×List Bool)} {o c a:Option (List Bool)} {L:List α} {b:α} {k:Nat} (h:o.bind (BY P k)=c.map (Prod.mk L)) (d:c.bind P=a.map (Prod.mk b)):o.bind (BY P (k+1))=a.map (Prod.mk (L++[b])):=by
 cases o with
 |none=>
  cases c with
  |none=>cases a with
   |none=>rfl
   |some Y=>simp at d
  |some Y=>simp at h
 |some X=>
  have g:BY P k X=c.map (Prod.mk L):=h;show (BY P k X).bind _=_;rw [g];cases c with
  |none=>cases a with
   |none=>rfl
   |some Y=>simp at d
  |some Y=>
   have f:P Y=a.map (Prod.mk b):=d;show (P Y).map _=_;rw [f];cases a <;>rfl
def Bo {α β:Type} (P:List Bool->Option (α×List Bool)) (Q:α->List Bool->Option (β×List Bool)) (X:List Bool):Option (β×List Bool):=(P X).bind fun y=>Q y.1 y.2
theorem Bw {α β:Type} {P:List Bool->Option (α×List Bool)} {Q:α->List Bool->Option (β×List Bool)} {o c d:Option (List Bool)} {a:α} {b:β} (h:o.bind P=c.map (Prod.mk a)) (f:c.bind (Q a)=d.map (Prod.mk b)):o.bind (Bo P Q)=d.map (Prod.mk b):=by
 cases o with
 |none=>cases c with
  |none=>cases d with
   |none=>rfl
   |some Y=>simp at f
  |some Y=>simp at h
 |some X=>
  have g:P X=c.map (Prod.mk a):=h;show (P X).bind _=_;rw [g];cases c with
  |none=>cases d with
   |none=>rfl
   |some Y=>simp at f
  |some Y=>exact f
def DT {α:Type} (a:α) (X:List Bool):Option (α×List Bool):=some (a,X)
theorem GK {α:Type} {o:Option (List Bool)} (a:α):o.bind (DT a)=o.map (Prod.mk a):=by cases o <;>rfl
theorem Ab.setN {M:List Nat} {a w:World} (h:Ab M a w) {q:Addr} (d:a.heap.size<=q.block) (u:Value):Ab M a (w.setCell q u):=
 Ab.mk h.os h.tape h.output (by have := h.size; simpa using this) (fun k b c => by
   have : (w.setCell q u).heap[k]? = w.heap[k]? := by simp only [World.setCell, Array.getElem?_modify, if_neg (by omega : q.block ≠ k)]
   exact this.trans (h.block k b c))
theorem Aa.sets5 {w V:World} {r:Nat} (h:Aa w V) (a:w.heap.size<=r) (u0 u1 u2 u3 u4:Value):Aa w (((((V.setCell ⟨r,0,none⟩ u0).setCell ⟨r,1,none⟩ u1).setCell ⟨r,2,none⟩ u2).setCell ⟨r,3,none⟩ u3).setCell ⟨r,4,none⟩ u4):=
 ((((h.step_set (p:=⟨r,0,none⟩) a _).step_set (p:=⟨r,1,none⟩) a _).step_set (p:=⟨r,2,none⟩) a _).step_set (p:=⟨r,3,none⟩) a _).step_set (p:=⟨r,4,none⟩) a _
def St (a:World) (p:Nat) (o:Option (List Bool)) (q:Nat) (tq:TypeId) (qc:Array Value) (W:World):Prop:=Ab [p] a W/\Rs p o W/\Ae q tq qc W/\a.heap.size<=q/\q≠p
theorem St.read {b:World} {p:Nat} {o c:Option (List Bool)} {q:Nat} {tq:TypeId} {qc:Array Value} {W a:World} (h:St b p o q tq qc W) (d:Ab [p] W a) (f:Rs p c a):St b p c q tq qc a:=
 ⟨h.1.trans d,f,h.2.2.1.but d (by simpa using h.2.2.2.2),h.2.2.2⟩
theorem St.put {a:World} {p:Nat} {o:Option (List Bool)} {q:Nat} {tq:TypeId} {qc qc':Array Value} {W:World} (h:St a p o q tq qc W) (j:Nat) (u:Value) (b:qc.setIfInBounds j u=qc'):St a p o q tq qc' (W.setCell ⟨q,j,none⟩ u):=
 ⟨h.1.setN (q:=⟨q,j,none⟩) h.2.2.2.1 u,h.2.1.kept (by simp only [World.setCell,Array.getElem?_modify,if_neg h.2.2.2.2]),h.2.2.1.set j u b,h.2.2.2⟩
theorem St.bel {a:World} {p:Nat} {o:Option (List Bool)} {q:Nat} {tq:TypeId} {qc:Array Value} {W b:World} (h:St a p o q tq qc W) (k:Aa W b):St a p o q tq qc b:=
 ⟨h.1.step k,h.2.1.kept (k.block p h.2.1.lt),h.2.2.1.bel k,h.2.2.2⟩
theorem St.rs {a:World} {p:Nat} {o:Option (List Bool)} {q:Nat} {tq:TypeId} {qc:Array Value} {W:World} (h:St a p o q tq qc W):Rs p o W:=h.2.1
theorem St.box {a:World} {p:Nat} {o:Option (List Bool)} {q:Nat} {tq:TypeId} {qc:Array Value} {W:World} (h:St a p o q tq qc W):Ae q tq qc W:=h.2.2.1
theorem St.new {b:World} {p:Nat} {o:Option (List Bool)} {tq:TypeId} {qc:Array Value} {W:World} (h:Ab [p] b W) (a:Rs p o W):St b p o W.heap.size tq qc (W.alloc (.cells qc tq)):=
 ⟨h.step ((jD W).step_alloc _),a.kept (((jD W).step_alloc _).block p a.lt),Ae.new W tq qc,h.size,by have:=a.lt;omega⟩
theorem Rs.new (w:World) (b:List UInt8) (a:TypeId):Rs w.heap.size (Option.some (Az b)) (w.alloc (.cells #[.string (Ai b),.int .u64 0,.bool false] a)):=by
 have h:=Ae.new w a #[.string (Ai b),.int .u64 0,.bool false];have:=Rd.new (h.cell 0 rfl) (h.cell 1 rfl) (h.cell 2 rfl) (fun j=>h.free j);rw [Fs] at this;exact Rs.some this
theorem VH (l:List UInt8):(Ai l).toList=l:=by rw [ByteArray.toList_eq];exact Fs l
theorem KK (l m:List UInt8):((Ai l).toList==m)=decide (l=m):=by rw [VH];by_cases h:l=m <;>simp [h]
def Kw:List Bool->Option (BK×List Bool):=Bo (A9 8) fun k=>Bo (DU k) fun t=>Bo (A9 8) fun x=>DT (Ai t,(x:Int))
def Ie:List Bool->Option (List BK×List Bool):=Bo (A9 8) fun n=>BY Kw n
def Yr (p:Nat) (o:Option (List Bool)) (w:World) (e:Ending) (w':World):Prop:=
 ∃(B:List BK) (a:Option (List Bool)) (v:Value) (x:Bool),e= .returned (.tuple #[v,.bool x])/\Ab [p] w w'/\Rs p a w'/\o.bind Ie=a.map (Prod.mk B)/\(x=true↔AH B)/\(x=true->AJ w.heap.size w' v B)
theorem NY {p base:Nat} {X a:World} {v:Value} {o:Option (List Bool)} (h:Rs p o X) (b:X.grownBy a v.ownBlock) (c:∀g,v.ownBlock=some g->base<=g) (d:p<base):Rs p o a:=
 h.kept (b.block p h.lt (fun e=>by have:=c p e.symm;omega))
theorem O5 (p:Nat) (o:Option (List Bool)) (w:World) (h:Rs p o w):
  Calls Tryz.prog 148 #[.pointer (some ⟨p,0,none⟩)] w (Yr p o w):=by
 obtain ⟨i0,hi,ad,ae,af⟩:=info_parts Tryz.infoBK;have hp:=h.lt;have H0:=jp (Cp p o 1 w h jo);clear h;go_enter Tryz.func148,Tryz.ntmps148;go_wp2_with fail;refine H0.out.mono ?_;rintro e w1 ⟨n,O,rfl,P,Q,ag,z⟩;have hn:n<=255:=by have:(2:Nat) ^ (8 * 1)=256:=rfl;omega
 have R:=jp P;have S:=jp Q;have ah:=jp z;clear P Q ag z H0;go_wp2_with fail;go_loopg [4,6] n (fun r u d wr=>∃(k:Nat) (L:List BK) (F:Option (List Bool)) (v:Value),v=u/\r=n - k/\k<=n/\d= .int .i64 (k:Int)/\Ab [p] w wr/\Rs p F wr/\L.length=k/\O.bind (BY Kw k)=F.map (Prod.mk L)/\AJ w.heap.size wr v L)
 case atStart=>
  refine ⟨0,[],O,_,rfl,rfl,jo,rfl,R.out,S.out,rfl,?_,World.ownsRow_nil _ _ _ _⟩;cases O <;>rfl
 case round=>
  obtain ⟨k,L,F,v,rfl,hr,ap,rfl,m,s,H,hq,hO⟩:=hrel;have I:=jp m;have y:=jp s;have M:=jp hq;have f:=jp hO;have HN:=jp H;have G:=jp (OQ p F wr s);have aq:=m.size;clear m s hq hO H R S;have J:∀(oo:Option (List Bool)),O.bind (BY Kw n)=oo.map (Prod.mk L)->o.bind Ie=oo.map (Prod.mk L):=fun oo h=>Bw ah.out h
  have T:=jp J;clear J;by_cases ar:k<n
  .cases F with
   |none=>
    go_wp2_with fail;refine G.out.mono ?_;rintro e N ⟨rfl,c⟩;replace I:=jp (I.out.step c);replace y:=jp (y.out.kept (c.block p y.out.lt));replace f:=jp (CV f.out c);have A:=jp (NT L v N (AJ.pool f.out) (by have:=HN.out;omega));clear c;go_wp2_with fail;refine A.out.mono ?_;rintro e w9 ⟨x,rfl,i,U⟩;have V:=jp U;have B:=jp (I.out.step i);have C:=jp (y.out.kept (i.block p y.out.lt));have K:=jp (CV f.out i);clear U i A;cases x
    .go_wp2;go_ret2;exact ⟨L,none,.slice none 0 0,false,rfl,B.out,C.out,T.out none (Le M.out jo),by simpa using V.out,fun h=>by cases h⟩
    .go_wp2;go_ret2;exact ⟨L,none,v,true,rfl,B.out,C.out,T.out none (Le M.out jo),by simpa using V.out,fun _=>K.out⟩
   |some X=>
    go_wp2_with fail;refine G.out.mono ?_;rintro e N ⟨rfl,c⟩;replace I:=jp (I.out.step c);replace y:=jp (y.out.kept (c.block p y.out.lt));replace f:=jp (CV f.out c);have W:Hid (∀g,v.ownBlock=some g->g<N.heap.size):=fun g Y=>(World.ownsRow.lt f.out g Y).2
    have Z:Hid (v.ownBlock≠some N.heap.size):=fun e=>by have:=W.out _ e;omega
    have q:=jp (St.new (tq:=57) (qc:=#[.string ⟨#[]⟩,.int .i64 0]) I.out y.out);replace f:=jp (World.ownsRow.alloc f.out (.cells #[.string ⟨#[]⟩,.int .i64 0] 57));have au:=c.size;clear c G I y W T;have K1:=jp (Cp p _ 1 _ q.out.rs jo);go_wp2_with fail;refine K1.out.mono ?_;rintro e v1 ⟨sz,oa,rfl,m,s,ai,z⟩;have ao:sz<=255:=by have:(2:Nat) ^ (8 * 1)=256:=rfl;omega
    replace q:=jp (q.out.read m s);replace f:=jp (EP f.out m hp);have P1:=jp z;clear m s ai z K1;have K2:=jp (Hf p _ sz _ q.out.rs jo);go_wp2_with fail;refine K2.out.mono ?_;rintro e v2 ⟨t,ob,rfl,m,s,aj,aa⟩;have E:=q.out.read m s;have g0:=E.box.cell 0 rfl;have k0:=E.box.free 0;replace f:=jp (ownsRow_setCell_other (EP f.out m hp) Z.out (a:=⟨N.heap.size,0,none⟩) (.string (Ai t)));replace q:=jp (E.put 0 (.string (Ai t)) (qc':=#[.string (Ai t),.int .i64 0]) rfl);have P2:=jp aa;clear m s aa K2 E aj;have K3:=jp (Cp p _ 1 _ q.out.rs jo);go_wp2_with fail;refine K3.out.mono ?_;rintro e v3 ⟨x,oc,rfl,m,s, -,ab⟩;have E:=q.out.read m s;have g1:=E.box.cell 1 rfl;have g2:=E.box.cell 0 rfl;have k1:=E.box.free 1;replace f:=jp (ownsRow_setCell_other (EP f.out m hp) Z.out (a:=⟨N.heap.size,1,none⟩) (.int .i64 (x:Int)));replace q:=jp (E.put 1 (.int .i64 (x:Int)) (qc':=#[.string (Ai t),.int .i64 (x:Int)]) rfl);have P3:=jp ab;have ak:Hid (O.bind (BY Kw (k+1))=oc.map (Prod.mk (L++[(Ai t,(x:Int))]))):=OE M.out (Bw P1.out (Bw P2.out (Bw P3.out (GK _))));have ac:Hid (w.heap.size<=v3.heap.size):=by show _<=_;have:=q.out.1.size;simpa using this
    clear m s ab K3 E g0 k0 P1 P2 P3 M;have av:L.length<=255:=by have:=HN.out;omega
    go_wp2_with (first|(at_builtin;refine wpList_append_own _ rfl _ _ 45 rfl w.heap.size 57 i0 (.agg #[.string ByteArray.empty,.int .i64 0]) 2 24 Tryz.underlying45 hi ad ae af rfl ji _ L.length (AC L) rfl ?p1a ⟨v3.heap.size,0,none⟩ 1 1 [.string (Ai t),.int .i64 (x:Int)] rfl rfl ?da1 ?da2 ?da3 ?da4 ?da5 ?_))
    case p1a=>exact World.ownsRow.alloc f.out _
    try (case da1=>exact C8 _ _ _ _ _ js)
    case da2=>first|exact ⟨rfl,rfl⟩|exact Df rfl rfl|(intro u hu;simp at hu;rcases hu with rfl|rfl <;>rfl)
    case da3=>unfold maxLen;omega
    case da4=>omega
    case da5=>first|(have:=ac.out;omega)|(have:=ac.out;simp;omega)
    intro v5 w5 D l _;have al:=jp (Mt (q.out.1.alloc _) l (fun g Y=>(World.ownsRow.lt f.out g Y).1));have am:=jp (NY (q.out.rs.kept (Aa.block (Aa.step_alloc (jD _) _) p q.out.rs.lt)) l (fun g Y=>(World.ownsRow.lt f.out g Y).1) hp);have an:Hid (AJ w.heap.size w5 v5 (L++[(Ai t,(x:Int))])):=AJ.snoc (b:=(Ai t,(x:Int))) D rfl;clear D l;go_wp2;go_roundg (n - (k+1))
    case measure=>omega
    case rel=>exact ⟨k+1,_,oc,_,rfl,rfl,jo,by go_num,al.out,am.out,by simpa using HN.out,ak.out,an.out⟩
  .obtain rfl:k=n:=jo
   have A:=jp (NT L v wr (AJ.pool f.out) (by have:=HN.out;omega));clear G;go_wp2_with fail;refine A.out.mono ?_;rintro e w9 ⟨x,rfl,i,U⟩;have V:=jp U;have B:=jp (I.out.step i);have C:=jp (y.out.kept (i.block p y.out.lt));have K:=jp (CV f.out i);clear U i A;cases x
   .go_wp2;go_ret2;exact ⟨L,F,.slice none 0 0,false,rfl,B.out,C.out,T.out F M.out,by simpa using V.out,fun h=>by cases h⟩
   .go_wp2;go_ret2;exact ⟨L,F,v,true,rfl,B.out,C.out,T.out F M.out,by simpa using V.out,fun _=>K.out⟩
def FB (a b:Nat):List Bool->Option (EI×List Bool):=Bo (A9 a) fun x=>Bo (A9 b) fun y=>DT ((x:Int),(y:Int))
def Jg (e:EI):Prop:=0<=e.1/\e.1<18446744073709551616/\0<=e.2/\e.2<65536
def YS (p:Nat) (o:Option (List Bool)) (b c n:Nat) (w:World) (e:Ending) (w':World):Prop:=
 ∃(L:List EI) (a:Option (List Bool)) (v:Value),e= .returned v/\Ab [p] w w'/\Rs p a w'/\o.bind (BY (FB b c) n)=a.map (Prod.mk L)/\AS w.heap.size w' v L/\L.length<=n/\∀e∈L,Jg e
theorem Mi {x a : Nat} (h : x < 2 ^ a) (b : a <= 64) : x < 18446744073709551616 := jN h (by
  have : (2 : Nat) ^ a <= 2 ^ 64 := Nat.pow_le_pow_right ji b
  simpa using this)
theorem Ou {x a : Nat} (h : x < 2 ^ a) (b : a <= 16) : x < 65536 := jN h (by
  have : (2 : Nat) ^ a <= 2 ^ 16 := Nat.pow_le_pow_right ji b
  simpa using this)
theorem NB (p:Nat) (o:Option (List Bool)) (G H n:Nat) (w:World) (h:Rs p o w) (h1:G<=64) (h2:H<=16) (hn:n<=65535):
  Calls Tryz.prog 149 #[.pointer (some ⟨p,0,none⟩),.agg #[.int .i64 (G:Int),.int .i64 (H:Int)],.int .i64 (n:Int)] w (YS p o G H n w):=by
 obtain ⟨i0,hi,aa,ab,ac⟩:=info_parts Tryz.infoEI;have hp:=h.lt;obtain ⟨A,l⟩:∃A,A=w.alloc (.cells #[.int .i64 (G:Int),.int .i64 (H:Int)] 187):=⟨_,rfl⟩;have P:Hid (Rs p o A):=by show Rs p o A;rw [l];exact h.kept (((jD w).step_alloc _).block p h.lt)
 have J:Hid (Ae w.heap.size 187 #[.int .i64 (G:Int),.int .i64 (H:Int)] A):=by show Ae _ _ _ A;rw [l];exact Ae.new _ _ _
 have Q:A.heap.size=w.heap.size+1:=by rw [l];simp
 have R:Hid (Aa w A):=by show Aa w A;rw [l];exact (jD w).step_alloc _
 have C:=jp Q;clear h Q;go_enter Tryz.func149,Tryz.ntmps149;go_wp2_with fail;rw [<-l];clear l;go_loopg [7,8] n (fun r u d wr=>∃(k:Nat) (L:List EI) (N:Option (List Bool)) (v:Value),v=u/\r=n - k/\k<=n/\d= .int .i64 (k:Int)/\Ab [p] A wr/\Rs p N wr/\L.length=k/\o.bind (BY (FB G H) k)=N.map (Prod.mk L)/\AS w.heap.size wr v L/\∀e∈L,Jg e)
 case atStart=>
  refine ⟨0,[],o,_,rfl,rfl,jo,rfl,Ab.refl _ _,P.out,rfl,?_,World.ownsRow_nil _ _ _ _,fun e K=>by cases K⟩;cases o <;>rfl
 case round=>
  obtain ⟨k,L,N,v,rfl,hr,ak,rfl,m,D,I,hq,hO,hA⟩:=hrel;have E:=jp m;have B:=jp D;have Y:=jp hq;have i:=jp hO;have Z:=jp I;have HA:=jp hA;have q:=jp (OQ p N wr D);have al:=m.size;clear m D hq hO I P hA;by_cases am:k<n
  .cases N with
   |none=>
    go_wp2_with fail;refine q.out.mono ?_;rintro e M ⟨rfl,c⟩;replace E:=jp ((Ab.of_bel R.out).trans (E.out.step c));replace B:=jp (B.out.kept (c.block p B.out.lt));replace i:=jp (CV i.out c);clear c q;go_wp2;go_ret;exact ⟨L,none,v,rfl,E.out,B.out,Le Y.out jo,i.out,by have:=Z.out;omega,HA.out⟩
   |some X=>
    go_wp2_with fail;refine q.out.mono ?_;rintro e M ⟨rfl,c⟩;replace E:=jp (E.out.step c);replace B:=jp (B.out.kept (c.block p B.out.lt));replace i:=jp (CV i.out c);have S:Hid (∀g,v.ownBlock=some g->g<M.heap.size):=fun g F=>(World.ownsRow.lt i.out g F).2
    have T:Hid (v.ownBlock≠some M.heap.size):=fun e=>by have:=S.out _ e;omega
    have s:=jp (St.new (tq:=76) (qc:=#[.int .u64 0,.int .i64 0]) E.out B.out);replace i:=jp (World.ownsRow.alloc i.out (.cells #[.int .u64 0,.int .i64 0] 76));have an:=c.size;have ao:w.heap.size≠M.heap.size:=by have:=C.out;omega
    have ap:w.heap.size<M.heap.size:=by have:=C.out;omega
    have x0:=(J.out.but E.out jx).cell 0 rfl;clear c q E B S;have K1:=jp (Lo p _ G _ s.out.rs jo);go_wp2_with fail;refine K1.out.mono ?_;rintro e v1 ⟨x,oa,rfl,m,D,hx,U⟩;have t:=s.out.read m D;have g0:=t.box.cell 0 rfl;have k0:=t.box.free 0;have x1:=(J.out.but t.1 jx).cell 1 rfl;replace i:=jp (ownsRow_setCell_other (EP i.out m hp) T.out (a:=⟨M.heap.size,0,none⟩) (.int .u64 (x:Int)));replace s:=jp (t.put 0 (.int .u64 (x:Int)) (qc':=#[.int .u64 (x:Int),.int .i64 0]) rfl);have P1:=jp U;have ad:=jp (Mi hx h1);clear m D hx U K1 t x0;have K2:=jp (Lo p _ H _ s.out.rs jo);go_wp2_with fail;refine K2.out.mono ?_;rintro e v2 ⟨y,ob,rfl,m,D,hy,V⟩;have t:=s.out.read m D;have g1:=t.box.cell 1 rfl;have g2:=t.box.cell 0 rfl;have k1:=t.box.free 1;have aq:=Ou hy h2;replace i:=jp (ownsRow_setCell_other (EP i.out m hp) T.out (a:=⟨M.heap.size,1,none⟩) (.int .i64 (y:Int)));replace s:=jp (t.put 1 (.int .i64 (y:Int)) (qc':=#[.int .u64 (x:Int),.int .i64 (y:Int)]) rfl);have P2:=jp V;have ae:Hid (o.bind (BY (FB G H) (k+1))=ob.map (Prod.mk (L++[((x:Int),(y:Int))]))):=OE Y.out (Bw P1.out (Bw P2.out (GK _)))
    have af:Hid (∀e∈L++[((x:Int),(y:Int))],Jg e):=fun e K=>by
     rcases jT.1 K with K|K
     .exact HA.out e K
     .obtain rfl:=jP.1 K;have:=ad.out;exact ⟨jv,jv,jv,jv⟩
    have W:Hid (w.heap.size<=v2.heap.size):=by show _<=_;have:=s.out.1.size;have:=C.out;simp at *;omega
    clear m D V K2 t g0 k0 P1 P2 Y hy x1 HA;have ar:L.length<=65535:=by have:=Z.out;omega
    go_wp2_with (first|(at_builtin;refine wpList_append_own _ rfl _ _ 46 rfl w.heap.size 76 i0 (.agg #[.int .u64 0,.int .i64 0]) 2 16 Tryz.underlying46 hi aa ab ac rfl ji _ L.length (Bf L) rfl ?p1a ⟨v2.heap.size,0,none⟩ 1 1 [.int .u64 (x:Int),.int .i64 (y:Int)] rfl rfl ?da1 ?da2 ?da3 ?da4 ?da5 ?_))
    case p1a=>exact World.ownsRow.alloc i.out _
    try (case da1=>exact C8 _ _ _ _ _ js)
    case da2=>first|exact ⟨rfl,rfl⟩|exact Df rfl rfl|(intro u hu;simp at hu;rcases hu with rfl|rfl <;>rfl)
    case da3=>unfold maxLen;omega
    case da4=>omega
    case da5=>first|(have:=W.out;omega)|(have:=W.out;simp;omega)
    intro v5 w5 z f _
    have ag := jp (Mt (s.out.1.alloc _) f (fun g F => by
      have := (World.ownsRow.lt i.out g F).1
      have h3 : g ≠ w.heap.size := fun e => by
        rcases i.out.2 with ⟨g1, _⟩ | ⟨g', cap, au, g1, _, g2, _⟩
        . rw [g1] at F; cases F
        . rw [g1] at F
          have ah : g' = w.heap.size := by rw [<- e]; simpa [Value.ownBlock] using F
          rw [ah] at g2
          have O := J.out.but s.out.1 (by simp; omega)
          rw [Ae, g2] at O
          injection O with O
          injection O with _ O
          revert O; decide
      have := C.out
      omega))
    have ai:=jp (NY (s.out.rs.kept (Aa.block (Aa.step_alloc (jD _) _) p s.out.rs.lt)) f (fun g F=>(World.ownsRow.lt i.out g F).1) hp);have aj:Hid (AS w.heap.size w5 v5 (L++[((x:Int),(y:Int))])):=AS.snoc (b:=((x:Int),(y:Int))) z rfl;clear z f;go_wp2;go_roundg (n - (k+1))
    case measure=>omega
    case rel=>exact ⟨k+1,_,ob,_,rfl,rfl,jo,by go_num,ag.out,ai.out,by simpa using Z.out,ae.out,aj.out,af.out⟩
  .obtain rfl:k=n:=jo
   clear q;go_wp2;go_ret;exact ⟨L,N,v,rfl,(Ab.of_bel R.out).trans E.out,B.out,Y.out,i.out,by have:=Z.out;omega,HA.out⟩
def Ei (c:Ac):Int:=if c.alg=2 then c.points else 1
theorem OM (c:Ac) (w:World):Calls Tryz.prog 89 #[.agg c.cells] w (MR w (Ei c)):=by
 obtain ⟨alg,f,b,d,key,a⟩:=c;unfold Ei Ac.cells;by_cases h:alg=2
 .subst h;exact Ng f b d key a w
 .rw [if_neg h];exact N6 alg f b d key a w (by simp [h])
def GM (c:Ac) (B:List BK):Int:=if As B<1 then 0 else if Fq c.alg then Ei c * As B else c.slots
theorem Pd {B:List BK} (h:AL B):0<=As B/\As B<=48:=by
 have:=Kq B (fun b a=>(h.2 b a).2.2) B.length;rw [jR (jH _)] at this;have:=h.1;omega
theorem Mg {c:Ac} (h:c.TOK):1<=Ei c/\Ei c<=3:=by
 obtain ⟨a,b,d,f, -,g,i,k,l,m⟩:=h;unfold Ei;split <;>omega
theorem SL (c:Ac) (B:List BK) (v:Value) (w:World) (J:Am w v B) (C:AL B) (K:c.TOK):
  Calls Tryz.prog 203 #[.agg c.cells,v] w (J0 w (GM c B)):=by
 have b:Hid (GM c B=if As B<1 then 0 else if Fq c.alg then Ei c * As B else c.slots):=rfl;have D:=Pd C;have E:=Mg K;have k:=fun s M=>Mx B v s M C
 have F:=fun s=>OM c s
 have G:=fun s=>Lu c.alg s
 have N:=jp J;generalize Ei c=H at *;generalize GM c B=W at *;generalize As B=q at *;obtain ⟨alg,g,d,f,key,a⟩:=c;simp only [Ac.cells] at *;obtain ⟨L,O⟩:=D;obtain ⟨X,P⟩:=E;generalize Fq alg=Q at *;clear J C K;obtain ⟨r,i⟩:∃r,r=w.alloc (.cells #[.int .i64 alg,.int .i64 g,.int .i64 d,.int .i64 f,.string key,.int .i64 a] 30):=⟨_,rfl⟩;have l:Hid (Aa w r):=by show Aa w r;rw [i];exact (jD w).step_alloc _
 have t:Hid (Ae w.heap.size 30 #[.int .i64 alg,.int .i64 g,.int .i64 d,.int .i64 f,.string key,.int .i64 a] r):=by show Ae _ _ _ r;rw [i];exact Ae.new _ _ _
 go_enter Tryz.func203,Tryz.ntmps203;go_wp2_with fail;rw [<-i];refine (k _ (N.out.later l.out)).mono ?_;rintro e Y ⟨rfl,m⟩;have z:=t.out.bel m;have n:=jp (l.out.trans m);have R:=z.cell 0 rfl;have S:=z.cell 1 rfl;have u:=jp z;clear m z t l i k;by_cases A:q<1
 .rw [if_pos A] at b;go_wp2;go_ret;exact ⟨BO b.out.symm,n.out⟩
 .rw [if_neg A] at b;have T:decide (q<1)=false:=jK A;have U:1<=q:=jo
  clear A;go_wp2_with fail;refine (G _).mono ?_;rintro e Z ⟨rfl,o⟩;have p:=u.out.bel o;have d0:=p.cell 0 rfl;have d1:=p.cell 1 rfl;have d2:=p.cell 2 rfl;have d3:=p.cell 3 rfl;have d4:=p.cell 4 rfl;have d5:=p.cell 5 rfl;have x:=jp (n.out.trans o);clear p o u n R S;cases Q
  .rw [if_neg js] at b;go_wp2;go_ret;exact ⟨BO b.out.symm,x.out⟩
  .rw [if_pos rfl] at b
   have hm:H * q<=150:=by
    have:H * q<=3 * 48:=Int.mul_le_mul P O L jo;omega
   have V:0<=H * q:=Int.mul_nonneg jo L;go_wp2_with fail;refine (F _).mono ?_;rintro e w3 ⟨rfl,y⟩;have I:=jp (x.out.trans y);clear y;go_wp2;go_ret;exact ⟨BO b.out.symm,I.out⟩
def Fr (B:List BK) (x:Int):Prop:=∃(j:Nat) (h:j<B.length),x=(j:Int)/\0<B[j].2
theorem WV (q:Nat) (c:Ac) (f o:Value) (B:List BK) (x:Int) (w:World) (p:Cx w q c f o) (r:Am w f B):
  Calls Tryz.prog 204 #[.pointer (some ⟨q,0,none⟩),.int .i64 x] w (Hv (Fr B x) w):=by
 obtain ⟨-,v, -⟩:=p;obtain ⟨y,cap,rfl,b⟩:=r.open;by_cases k:0<=x
 .obtain ⟨j,rfl⟩:∃j:Nat,x=(j:Int):=⟨x.toNat,jo⟩;clear k;by_cases l:j<B.length
  .obtain ⟨g,rfl,s,z⟩:=b j l
   have a:Hid (Fr B (j:Int)↔0<B[j].2):=by
    show _↔_;refine ⟨fun ⟨i,m,n,d⟩=>?_,fun h=>⟨j,l,rfl,h⟩⟩;obtain rfl:i=j:=jo
    exact d
   clear b s;generalize B[j].2=t at *;go_enter Tryz.func204,Tryz.ntmps204;go_wp2;go_ret;exact ⟨decide (0<t),rfl,jq,by rw [decide_eq_true_iff];exact a.out.symm⟩
  .have a:Hid (¬Fr B (j:Int)):=fun ⟨i,m,n,d⟩=>by omega
   clear b;go_enter Tryz.func204,Tryz.ntmps204;go_wp2;go_ret;exact ⟨false,rfl,jq,⟨fun h=>(by cases h),fun h=>absurd h a.out⟩⟩
 .have a:Hid (¬Fr B x):=fun ⟨i,m,n,d⟩=>by omega
  have u:x<0:=jo
  clear b k;go_enter Tryz.func204,Tryz.ntmps204;go_wp2;go_ret;exact ⟨false,rfl,jq,⟨fun h=>(by cases h),fun h=>absurd h a.out⟩⟩
def Ii (a b:EI):Prop:=¬(b.1<a.1\/(a.1=b.1/\b.2<a.2))
def GC (E:List EI):Prop:=∀i (h:i+1<E.length),Ii E[i] E[i+1]
theorem VJ (E:List EI) (v:Value) (w:World) (L:AR w v E) (V:E.length<=1048576):
  Calls Tryz.prog 205 #[v] w (Hv (GC E) w):=by
 obtain ⟨W,cap,rfl,o⟩:=L.open;go_enter Tryz.func205,Tryz.ntmps205;go_wp2;go_loopg [3] E.length (fun r n wr=>Aa w wr/\∃k:Nat,r=E.length - k/\n= .int .i64 ((k:Int)+1)/\k<=E.length/\∀i (h:i+1<E.length),i<k->Ii E[i] E[i+1])
 case atStart=>exact ⟨jD _,0,jo,rfl,jo,fun i h M=>by omega⟩
 case round=>
  obtain ⟨p,k,X,rfl,Y,a⟩:=hrel;have q:=jp a;clear a;by_cases l:k+1<E.length
  .obtain ⟨g,rfl,D,F⟩:=o k jo;obtain ⟨Z,u,G,H⟩:=o (k+1) l;cases u;have x:=p.cell D;have N:=p.cell F;have O:=p.cell G;have P:=p.cell H;have I:g<wr.heap.size:=jF x;have b:Hid (GC E->Ii E[k] E[k+1]):=fun h=>h k l
   have y:Hid (Ii E[k] E[k+1]->∀i (h:i+1<E.length),i<k+1->Ii E[i] E[i+1]):=fun Q i h M=>by
    by_cases z:i=k
    .subst z;exact Q
    .exact q.out i h jo
   clear o D F G H q;unfold Ii at b y;generalize E[k].1=c at *;generalize E[k].2=J at *;generalize E[k+1].1=d at *;generalize E[k+1].2=K at *;have A:((k:Int)+1<(E.length:Int)):=jo
   by_cases s:d<c
   .replace b:Hid (¬GC E):=fun h=>b.out h (Or.inl s)
    go_wp2;go_ret;exact ⟨false,rfl,jq,⟨fun h=>(by cases h),fun h=>absurd h b.out⟩⟩
   .have R:decide (d<c)=false:=jK s;have m:=jp s;clear s;cases B:(c==d)
    .have f:Hid (c≠d):=fun e=>by rw [e] at B;simp at B
     go_wp2_with fail;go_roundg (E.length - (k+1))
     case measure=>omega
     case rel=>exact ⟨jq,k+1,rfl,by go_num,jo,y.out (fun h=>by have S:=m.out;have q2:c≠d:=f.out;omega)⟩
    .have f:Hid (c=d):=by show c=d;simpa using B
     by_cases t:K<J
     .replace b:Hid (¬GC E):=fun h=>b.out h (Or.inr ⟨f.out,t⟩)
      go_wp2;go_ret;exact ⟨false,rfl,jq,⟨fun h=>(by cases h),fun h=>absurd h b.out⟩⟩
     .have T:decide (K<J)=false:=jK t;have C:=jp t;clear t;go_wp2_with fail;go_roundg (E.length - (k+1))
      case measure=>omega
      case rel=>exact ⟨jq,k+1,rfl,by go_num,jo,y.out (fun h=>by have S:=m.out;have q3:=C.out;omega)⟩
  .have U:Hid (GC E):=fun i h=>q.out i h jo
   have A:¬((k:Int)+1<(E.length:Int)):=jo
   clear o q;go_wp2;go_ret;exact ⟨true,rfl,jq,⟨fun _=>U.out,fun _=>rfl⟩⟩
def Dg (E:List EI) (k:Nat):Nat:=E.countP fun e=>e.2==(k:Int)
def Gs (c:Ac) (B:List BK) (E:List EI):Prop:=∀j (h:j<B.length),(Dg E j:Int)=Ei c * B[j].2
theorem UR (E:List EI) (k i:Nat) (h:i<E.length):Dg (E.take (i+1)) k=Dg (E.take i) k+(if E[i].2==(k:Int) then 1 else 0):=by
 rw [jQ h,Dg,Dg,List.countP_append];simp [List.countP_cons]
theorem VV (E:List EI) (k i:Nat):Dg (E.take i) k<=E.length:=jX List.countP_le_length (List.length_take_le' _ _)
theorem Th (q:Nat) (c:Ac) (vP vE:Value) (B:List BK) (E:List EI) (w:World) (hT:Cx w q c vP vE) (hP:Am w vP B) (hE:AR w vE E) (hB:AL B) (hlen:E.length<=1048576) (hc:c.TOK):
  Calls Tryz.prog 206 #[.pointer (some ⟨q,0,none⟩)] w (Hv (Gs c B E) w):=by
 have hel:=Mg hc;have hea:=fun wx=>OM c wx
 have hAO:∀j (h:j<B.length),Gs c B E->(Dg E j:Int)=Ei c * B[j].2:=fun j h k=>k j h
 have HAO:=jp hAO;have HFin:Hid ((∀j (h:j<B.length),(Dg E j:Int)=Ei c * B[j].2)->Gs c B E):=fun h=>h
 clear hAO;have HT:=jp hT;generalize Ei c=ea at *;obtain ⟨⟨t0,t1,t2,t3,t4,t5⟩,t6,t7⟩:=hT;obtain ⟨aP,capP,rfl,hcP⟩:=hP.open;obtain ⟨aE,capE,rfl,hcE⟩:=hE.open;obtain ⟨h8,hall⟩:=hB;obtain ⟨b1,b2⟩:=hel;obtain ⟨alg,slots,points,probes,key,formats⟩:=c;simp only [Ac.cells] at *;clear hP hE hc HT;go_enter Tryz.func206,Tryz.ntmps206;go_wp2;go_loopg [13] B.length (fun r n wr=>Aa w wr/\∃k:Nat,r=B.length - k/\k<=B.length/\n= .int .i64 k/\∀j (h:j<B.length),j<k->(Dg E j:Int)=ea * B[j].2)
 case atStart=>exact ⟨jD _,0,jo,jo,rfl,fun j h hj=>by omega⟩
 case round=>
  obtain ⟨hb,k,hr,hk,rfl,hA⟩:=hrel;have HA:=jp hA;clear hA;by_cases hlt:k<B.length
  .obtain ⟨g,rfl,c0,c1⟩:=hcP k hlt;have c0':=hb.cell c0;have c1':=hb.cell c1;have hwt:=(hall _ (jJ hlt)).2.2;have HN:Hid (Gs ⟨alg,slots,points,probes,key,formats⟩ B E->(Dg E k:Int)=ea * B[k].2):=HAO.out k hlt
   have HY:Hid ((Dg E k:Int)=ea * B[k].2->∀j (h:j<B.length),j<k+1->(Dg E j:Int)=ea * B[j].2):=fun h0 j h hj=>by
    by_cases hjk:j=k
    .subst hjk;exact h0
    .exact HA.out j h jo
   clear HA c0 c1;generalize B[k].1=idk at *;generalize B[k].2=wk at *;obtain ⟨w1,w2⟩:=hwt;obtain ⟨Wb,hWb⟩:∃Wb,Wb=wr.alloc (.cells #[.string idk,.int .i64 wk] 57):=⟨_,rfl⟩;have hbb:Aa w Wb:=by rw [hWb];exact hb.step_alloc _
   have HXb:Hid (Ae wr.heap.size 57 #[.string idk,.int .i64 wk] Wb):=by show Ae _ _ _ Wb;rw [hWb];exact Ae.new _ _ _
   have s7:=hb.cell t7;have hqlt:q<wr.heap.size:=jF s7;go_wp2_with fail;rw [<-hWb];clear hWb;go_loopg [5,23] E.length (fun r s n wi=>Aa Wb wi/\∃i:Nat,r=E.length - i/\i<=E.length/\n= .int .i64 i/\s= .int .i64 (Dg (E.take i) k:Int))
   case atStart=>exact ⟨jD _,0,jo,jo,rfl,by simp [Dg]⟩
   case round=>
    obtain ⟨hbi,i,hri,hi,rfl,rfl⟩:=hrel;have hcl:=VV E k i;by_cases hil:i<E.length
    .obtain ⟨ge,rfl,e0,e1⟩:=hcE i hil;have e0':=(hbb.trans hbi).cell e0;have e1':=(hbb.trans hbi).cell e1;have HS:Hid (Dg (E.take (i+1)) k=Dg (E.take i) k+(if E[i].2==(k:Int) then 1 else 0)):=UR E k i hil;clear e0 e1;generalize E[i].1=pt at *;generalize E[i].2=ow at *;generalize Dg (E.take i) k=cn at *;cases ho:(ow==(k:Int))
     .rw [ho] at HS;go_wp2_with fail;go_roundg (E.length - (i+1))
      case measure=>omega
      case rel=>exact ⟨jq,i+1,rfl,jo,by go_num,by rw [HS.out];simp⟩
     .rw [ho] at HS;go_wp2_with fail;go_roundg (E.length - (i+1))
      case measure=>omega
      case rel=>exact ⟨jq,i+1,rfl,jo,by go_num,by rw [HS.out];simp⟩
    .have hii:i=E.length:=jo
     have hte:E.take i=E:=jR jo;rw [hte];rw [hte] at hcl;have X:=HXb.out.bel hbi;have x1:=X.cell 1 rfl;have hbw:=hbb.trans hbi;have u0:=hbw.cell t0;have u1:=hbw.cell t1;have u2:=hbw.cell t2;have u3:=hbw.cell t3;have u4:=hbw.cell t4;have u5:=hbw.cell t5;have HBW:=jp hbw;have hm:0<=ea * wk:=Int.mul_nonneg jo jo
     have hm2:ea * wk<=18:=by
      have:ea * wk<=3 * 6:=Int.mul_le_mul b2 w2 w1 jo;omega
     have hwm:IntKind.i64.wrap (ea * wk)=ea * wk:=by rw [IntKind.wrap_i64];omega
     clear hte hii X hcE hcP hbi hbb t0 t1 t2 t3 t4 t5 t6 t7 s7;generalize Dg E k=cn at *;cases hq:((cn:Int) !=ea * wk)
     .have HQ:Hid ((cn:Int)=ea * wk):=by show _=_;simpa using hq
      go_wp2_with fail;go_region_with (go_at_call 89;refine (hea _).mono ?_;rintro e w9 ⟨rfl,hb9x⟩;have hb9:Aa wr w9:=(by first|exact hb9x|exact (jB (jD wr)).trans hb9x);have x9:=hb9.cell x1;have HB9:=jp (HBW.out.trans hb9);clear hb9x hb9)
      all_goals
       go_wp2_with fail;go_roundg (B.length - (k+1))
       case measure=>omega
       case rel=>exact ⟨HB9.out,k+1,rfl,jo,by go_num,HY.out HQ.out⟩
     .have HQ:Hid (¬(cn:Int)=ea * wk):=by show ¬_;simpa using hq
      go_wp2_with fail;go_region_with (go_at_call 89;refine (hea _).mono ?_;rintro e w9 ⟨rfl,hb9x⟩;have hb9:Aa wr w9:=(by first|exact hb9x|exact (jB (jD wr)).trans hb9x);have x9:=hb9.cell x1;have HB9:=jp (HBW.out.trans hb9);clear hb9x hb9)
      all_goals
       go_wp2;go_ret;exact ⟨false,rfl,HB9.out,⟨fun h=>(by cases h),fun h=>absurd (HN.out h) HQ.out⟩⟩
  .have HE:Hid (Gs ⟨alg,slots,points,probes,key,formats⟩ B E):=HFin.out (fun j h=>HA.out j h jo);clear hcP hcE HA;go_wp2;go_ret;exact ⟨true,rfl,jq,⟨fun _=>HE.out,fun _=>rfl⟩⟩
end Go.Proofs.YtpapdkhjdelfcaaGreat
