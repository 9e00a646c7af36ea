import Derived.Test.YtpapdkhjdelfcaaGreatMAJ
import Derived.Deep.RegionHeld3
namespace Go.Proofs.YtpapdkhjdelfcaaGreat
open Go.RowKit
set_option maxRecDepth 100000
set_option maxHeartbeats 4000000
def A9 (W:Nat) (X:jz):Option (Nat×List Bool):=if X.length<W then none else some (AD (X.take W),X.drop W)
def DU (k:Nat) (X:jz):Option (List UInt8×List Bool):=if X.length<8 * k then none else some (AK (X.take (8 * k)),X.drop (8 * k))
def Rs (p:Nat) (o:Option (List Bool)) (w:jj):Prop:=∃X,Rd p X o.isNone w/\∀Y,o=some Y->X=Y
def BW:Option (List Bool)->Bool
 |some X=>decide (X.length<8) && decide (AD X=0)
 |none=>false
theorem Rs.some {p:Nat} {X:jz} {w:jj} (h:Rd p X false w):Rs p (some X) w:=⟨X,h,fun Y e=>by injection e⟩
theorem Rs.none {p:Nat} {X:jz} {w:jj} (h:Rd p X true w):Rs p none w:=⟨X,h,fun Y e=>by cases e⟩
theorem Rs.kept {p:Nat} {o:Option (List Bool)} {w w':jj} (h:Rs p o w) (a:w'.heap[p]?=w.heap[p]?):Rs p o w':=by
 obtain ⟨X,b,c⟩:=h;exact ⟨X,b.kept a,c⟩
theorem Rs.lt {p:Nat} {o:Option (List Bool)} {w:jj} (h:Rs p o w):p<w.heap.size:=by
 obtain ⟨X,a,b⟩:=h;exact a.lt
def PJ (p:Nat) (k:IntKind) (W:Nat) (o:Option (List Bool)) (w:jj) (e:Ending) (w':jj):Prop:=
 ∃(x:Nat) (o':Option (List Bool)),e= .returned (.int k (x:Int))/\Ab [p] w w'/\Rs p o' w'/\x<2 ^ W/\o.bind (A9 W)=o'.map (Prod.mk x)
theorem Oh {p W:Nat} {o:Option (List Bool)} {X:jz} {w':jj} (c:∀Y,o=some Y->X=Y) (a:Rd p (X.drop W) (o.isNone||decide (X.length<W)) w'):∃o',Rs p o' w'/\o.bind (A9 W)=o'.map (Prod.mk (AD (BZ X W))):=by
 cases o with
 |none=>exact ⟨none,Rs.none a,rfl⟩
 |some Y=>
  obtain rfl:=c Y rfl;by_cases b:X.length<W
  .refine ⟨none,?_,by simp [A9,b]⟩;simp [b] at a;exact Rs.none a
  .refine ⟨some (X.drop W),?_,?_⟩
   .simp [b] at a;exact Rs.some a
   .have:=O9 X W jo;simp [A9,b,this]
theorem PT (X:jz) (W:Nat):AD (BZ X W)<2 ^ W:=by
 have:=FG (BZ X W);rw [GV] at this;exact this
theorem Lo (p:Nat) (o:Option (List Bool)) (W:Nat) (w:jj) (h:Rs p o w) (a:W<=64):
  Calls Tryz.prog 171 #[.pointer (some ⟨p,0,none⟩),.int .i64 (W:Int)] w (PJ p .u64 W o w):=by
 obtain ⟨X,b,c⟩:=h;refine (LN p X _ W w b a).mono ?_;rintro e w' ⟨rfl,d,f⟩;obtain ⟨o',g,i⟩:=Oh c f;exact ⟨_,o',rfl,d,g,PT _ _,i⟩
theorem Cp (p:Nat) (o:Option (List Bool)) (W:Nat) (w:jj) (h:Rs p o w) (a:W<=7):
  Calls Tryz.prog 122 #[.pointer (some ⟨p,0,none⟩),.int .i64 (W:Int)] w (PJ p .i64 (8 * W) o w):=by
 obtain ⟨X,b,c⟩:=h;refine (SZ p X _ W w b a).mono ?_;rintro e w' ⟨rfl,d,f⟩;obtain ⟨o',g,i⟩:=Oh c f;exact ⟨_,o',rfl,d,g,PT _ _,i⟩
def LG (p:Nat) (k:Nat) (o:Option (List Bool)) (w:jj) (e:Ending) (w':jj):Prop:=
 ∃(l:jy) (o':Option (List Bool)),e= .returned (.string (Ai l))/\Ab [p] w w'/\Rs p o' w'/\l.length<=k/\o.bind (DU k)=o'.map (Prod.mk l)
theorem Xd {p k:Nat} {o:Option (List Bool)} {X a:jz} {d:Bool} {l:jy} {w':jj} (g:∀Y,o=some Y->X=Y) (b:Rd p a d w') (i:Gb X o.isNone k l a d):∃o',Rs p o' w'/\o.bind (DU k)=o'.map (Prod.mk l):=by
 obtain ⟨s,t,m,f⟩:=i;cases o with
 |none=>
  have:=f (Or.inl rfl);subst this;exact ⟨none,Rs.none b,rfl⟩
 |some Y=>
  obtain rfl:=g Y rfl;by_cases c:X.length<8 * k
  .have:=f (Or.inr c);subst this;exact ⟨none,Rs.none b,by simp [DU,c]⟩
  .obtain ⟨n,q,r⟩:=m rfl jo;subst r;refine ⟨some a,Rs.some b,?_⟩
   have e:AK (Az l)=l:=by
    have:=J4 l [];simpa [AK] using this
   rw [n] at e;simp [DU,c,e,q]
theorem Hf (p:Nat) (o:Option (List Bool)) (k:Nat) (w:jj) (h:Rs p o w) (b:k<=1099511627776):
  Calls Tryz.prog 121 #[.pointer (some ⟨p,0,none⟩),.int .i64 (k:Int)] w (LG p k o w):=by
 obtain ⟨X,c,d⟩:=h;refine (Rl p X _ k w c b).mono ?_;rintro e w' ⟨l,n,q,rfl,f,g,a⟩;obtain ⟨o',i,m⟩:=Xd d g a;exact ⟨l,o',rfl,f,i,a.1,m⟩
theorem I7 (p:Nat) (o:Option (List Bool)) (w:jj) (h:Rs p o w):
  Calls Tryz.prog 123 #[.pointer (some ⟨p,0,none⟩)] w (GX w (BW o)):=by
 obtain ⟨X,a,b⟩:=h;have:=S8 p X _ w a;cases o with
 |none=>simpa [EL,BW] using this
 |some Y=>
  obtain rfl:=b Y rfl;simpa [EL,BW] using this
theorem OQ (p:Nat) (o:Option (List Bool)) (w:jj) (h:Rs p o w):
  Calls Tryz.prog 179 #[.pointer (some ⟨p,0,none⟩)] w (GX w o.isNone):=by
 obtain ⟨X,a,b⟩:=h;exact T8 p X _ w a
theorem Vg (p:Nat) (o:Option (List Bool)) (k:Int) (w:jj) (h:Rs p o w) (c:k<0):
  Calls Tryz.prog 121 #[.pointer (some ⟨p,0,none⟩),.int .i64 k] w (LG p 0 o w):=by
 have a:=jp h;clear h;have b:=LV (Bs:=[]) (World.ownsRow_nil (w:=w) w.heap.size 5 1);go_enter Tryz.func121,Tryz.ntmps121;go_wp2;go_loopg [5,6] 0 (fun r v d wr=>v= .slice none 0 0/\d= .int .i64 0/\wr=w)
 case atStart=>exact ⟨rfl,rfl,rfl⟩
 case round=>
  obtain ⟨rfl,rfl,rfl⟩:=hrel;go_wp2;go_ret;refine ⟨[],o,rfl,Ab.refl _ _,a.out,js,?_⟩;cases o with
  |none=>rfl
  |some X=>simp [DU,AK]
def BY {α:Type} (P:List Bool->Option (α×List Bool)):Nat->List Bool->Option (List α×List Bool)
 |0,X=>some ([],X)
 |n+1,X=>(BY P n X).bind fun y=>(P y.2).map fun z=>(y.1++[z.1],z.2)
theorem VD {α:Type} {P:List Bool->Option (α×List Bool)} {X:jz} {k n:Nat} (h:BY P k X=none) (b:k<=n):BY P n X=none:=by
 induction n with
 |zero=>
  obtain rfl:k=0:=jo
  exact h
 |succ n ih=>
  by_cases a:k=n+1
  .rw [<-a];exact h
  .rw [BY,ih jo];rfl
theorem Le {α:Type} {P:List Bool->Option (α×List Bool)} {o:Option (List Bool)} {L:List α} {k n:Nat} (h:o.bind (BY P k)=none) (a:k<=n):o.bind (BY P n)=(none:Option (List Bool)).map (Prod.mk L):=by
 cases o with
 |none=>rfl
 |some X=>exact VD h a
theorem OE {α:Type} {P:List Bool->Option (α×List Bool)} {o c a:Option (List Bool)} {L:List α} {b:α} {k:Nat} (h:o.bind (BY P k)=c.map (Prod.mk L)) (d:c.bind P=a.map (Prod.mk b)):o.bind (BY P (k+1))=a.map (Prod.mk (L++[b])):=by
 cases o with
 |none=>
  cases c with
  |none=>cases a with
   |none=>rfl
   |some Y=>simp at d
  |some Y=>simp at h
 |some X=>
  have g:BY P k X=c.map (Prod.mk L):=h;show (BY P k X).bind _=_;rw [g];cases c with
  |none=>cases a with
   |none=>rfl
   |some Y=>simp at d
  |some Y=>
   have f:P Y=a.map (Prod.mk b):=d;show (P Y).map _=_;rw [f];cases a <;>rfl
def Bo {α β:Type} (P:List Bool->Option (α×List Bool)) (Q:α->List Bool->Option (β×List Bool)) (X:jz):Option (β×List Bool):=(P X).bind fun y=>Q y.1 y.2
theorem Bw {α β:Type} {P:List Bool->Option (α×List Bool)} {Q:α->List Bool->Option (β×List Bool)} {o c d:Option (List Bool)} {a:α} {b:β} (h:o.bind P=c.map (Prod.mk a)) (f:c.bind (Q a)=d.map (Prod.mk b)):o.bind (Bo P Q)=d.map (Prod.mk b):=by
 cases o with
 |none=>cases c with
  |none=>cases d with
   |none=>rfl
   |some Y=>simp at f
  |some Y=>simp at h
 |some X=>
  have g:P X=c.map (Prod.mk a):=h;show (P X).bind _=_;rw [g];cases c with
  |none=>cases d with
   |none=>rfl
   |some Y=>simp at f
  |some Y=>exact f
def DT {α:Type} (a:α) (X:jz):Option (α×List Bool):=some (a,X)
theorem GK {α:Type} {o:Option (List Bool)} (a:α):o.bind (DT a)=o.map (Prod.mk a):=by cases o <;>rfl
theorem Ab.setN {M:jr} {a w:jj} (h:Ab M a w) {q:Addr} (d:a.heap.size<=q.block) (u:ju):Ab M a (w.setCell q u):=
 Ab.mk h.os h.tape h.output (by have := h.size; simpa using this) (fun k b c => by
   have : (w.setCell q u).heap[k]? = w.heap[k]? := by simp only [World.setCell, Array.getElem?_modify, if_neg (by omega : q.block ≠ k)]
   exact this.trans (h.block k b c))
theorem Aa.sets5 {w V:jj} {r:Nat} (h:Aa w V) (a:w.heap.size<=r) (u0 u1 u2 u3 u4:ju):Aa w (((((V.setCell ⟨r,0,none⟩ u0).setCell ⟨r,1,none⟩ u1).setCell ⟨r,2,none⟩ u2).setCell ⟨r,3,none⟩ u3).setCell ⟨r,4,none⟩ u4):=
 ((((h.step_set (p:=⟨r,0,none⟩) a _).step_set (p:=⟨r,1,none⟩) a _).step_set (p:=⟨r,2,none⟩) a _).step_set (p:=⟨r,3,none⟩) a _).step_set (p:=⟨r,4,none⟩) a _
def St (a:jj) (p:Nat) (o:Option (List Bool)) (q:Nat) (tq:TypeId) (qc:Array Value) (W:jj):Prop:=Ab [p] a W/\Rs p o W/\Ae q tq qc W/\a.heap.size<=q/\q≠p
theorem St.read {b:jj} {p:Nat} {o o':Option (List Bool)} {q:Nat} {tq:TypeId} {qc:Array Value} {W a:jj} (h:St b p o q tq qc W) (c:Ab [p] W a) (d:Rs p o' a):St b p o' q tq qc a:=
 ⟨h.1.trans c,d,h.2.2.1.but c (by simpa using h.2.2.2.2),h.2.2.2⟩
theorem St.put {a:jj} {p:Nat} {o:Option (List Bool)} {q:Nat} {tq:TypeId} {qc qc':Array Value} {W:jj} (h:St a p o q tq qc W) (j:Nat) (u:ju) (b:qc.setIfInBounds j u=qc'):St a p o q tq qc' (W.setCell ⟨q,j,none⟩ u):=
 ⟨h.1.setN (q:=⟨q,j,none⟩) h.2.2.2.1 u,h.2.1.kept (by simp only [World.setCell,Array.getElem?_modify,if_neg h.2.2.2.2]),h.2.2.1.set j u b,h.2.2.2⟩
theorem St.bel {a:jj} {p:Nat} {o:Option (List Bool)} {q:Nat} {tq:TypeId} {qc:Array Value} {W b:jj} (h:St a p o q tq qc W) (k:Aa W b):St a p o q tq qc b:=
 ⟨h.1.step k,h.2.1.kept (k.block p h.2.1.lt),h.2.2.1.bel k,h.2.2.2⟩
theorem St.rs {a:jj} {p:Nat} {o:Option (List Bool)} {q:Nat} {tq:TypeId} {qc:Array Value} {W:jj} (h:St a p o q tq qc W):Rs p o W:=h.2.1
theorem St.box {a:jj} {p:Nat} {o:Option (List Bool)} {q:Nat} {tq:TypeId} {qc:Array Value} {W:jj} (h:St a p o q tq qc W):Ae q tq qc W:=h.2.2.1
theorem St.new {b:jj} {p:Nat} {o:Option (List Bool)} {tq:TypeId} {qc:Array Value} {W:jj} (h:Ab [p] b W) (a:Rs p o W):St b p o W.heap.size tq qc (W.alloc (.cells qc tq)):=
 ⟨h.step ((jD W).step_alloc _),a.kept (((jD W).step_alloc _).block p a.lt),Ae.new W tq qc,h.size,by have:=a.lt;omega⟩
theorem Rs.new (w:jj) (b:jy) (a:TypeId):Rs w.heap.size (Option.some (Az b)) (w.alloc (.cells #[.string (Ai b),.int .u64 0,.bool false] a)):=by
 have h:=Ae.new w a #[.string (Ai b),.int .u64 0,.bool false];have:=Rd.new (h.cell 0 rfl) (h.cell 1 rfl) (h.cell 2 rfl) (fun j=>h.free j);rw [Fs] at this;exact Rs.some this
theorem VH (l:jy):(Ai l).toList=l:=by rw [ByteArray.toList_eq];exact Fs l
theorem KK (l m:jy):((Ai l).toList==m)=decide (l=m):=by rw [VH];by_cases h:l=m <;>simp [h]
def Kw:List Bool->Option (BK×List Bool):=Bo (A9 8) fun k=>Bo (DU k) fun t=>Bo (A9 8) fun x=>DT (Ai t,(x:Int))
def Ie:List Bool->Option (List BK×List Bool):=Bo (A9 8) fun n=>BY Kw n
def Yr (p:Nat) (o:Option (List Bool)) (w:jj) (e:Ending) (w':jj):Prop:=
 ∃(B:List BK) (o':Option (List Bool)) (v:ju) (x:Bool),e= .returned (.tuple #[v,.bool x])/\Ab [p] w w'/\Rs p o' w'/\o.bind Ie=o'.map (Prod.mk B)/\(x=true↔AH B)/\(x=true->AJ w.heap.size w' v B)
theorem NY {p base:Nat} {X a:jj} {v:ju} {o:Option (List Bool)} (h:Rs p o X) (b:X.grownBy a v.ownBlock) (c:∀g,v.ownBlock=some g->base<=g) (d:p<base):Rs p o a:=
 h.kept (b.block p h.lt (fun e=>by have:=c p e.symm;omega))
theorem O5 (p:Nat) (o:Option (List Bool)) (w:jj) (h:Rs p o w):
  Calls Tryz.prog 148 #[.pointer (some ⟨p,0,none⟩)] w (Yr p o w):=by
 obtain ⟨i0,hi,aa,ab,ac⟩:=info_parts Tryz.infoBK;have hp:=h.lt;have H0:=jp (Cp p o 1 w h jo);clear h;go_enter Tryz.func148,Tryz.ntmps148;go_wp2_with fail;refine H0.out.mono ?_;rintro e w1 ⟨n,N,rfl,O,P,ad,z⟩;have hn:n<=255:=by have:(2:Nat) ^ (8 * 1)=256:=rfl;omega
 have Q:=jp O;have R:=jp P;have ae:=jp z;clear O P ad z H0;go_wp2;go_loopg [4,6] n (fun r u d wr=>∃(k:Nat) (L:List BK) (o':Option (List Bool)) (v:ju),v=u/\r=n - k/\k<=n/\d= .int .i64 (k:Int)/\Ab [p] w wr/\Rs p o' wr/\L.length=k/\N.bind (BY Kw k)=o'.map (Prod.mk L)/\AJ w.heap.size wr v L)
 case atStart=>
  refine ⟨0,[],N,_,rfl,rfl,jo,rfl,Q.out,R.out,rfl,?_,World.ownsRow_nil _ _ _ _⟩;cases N <;>rfl
 case round=>
  obtain ⟨k,L,o',v,rfl,hr,am,rfl,m,s,G,hq,hO⟩:=hrel;have H:=jp m;have y:=jp s;have K:=jp hq;have f:=jp hO;have HN:=jp G;have F:=jp (OQ p o' wr s);have an:=m.size;clear m s hq hO G Q R;have I:∀(oo:Option (List Bool)),N.bind (BY Kw n)=oo.map (Prod.mk L)->o.bind Ie=oo.map (Prod.mk L):=fun oo h=>Bw ae.out h
  have S:=jp I;clear I;by_cases ao:k<n
  .cases o' with
   |none=>
    go_wp2_with fail;refine F.out.mono ?_;rintro e M ⟨rfl,c⟩;replace H:=jp (H.out.step c);replace y:=jp (y.out.kept (c.block p y.out.lt));replace f:=jp (CV f.out c);have A:=jp (NT L v M (AJ.pool f.out) (by have:=HN.out;omega));clear c;go_wp2_with fail;refine A.out.mono ?_;rintro e w9 ⟨x,rfl,i,hx⟩;have HX:=jp hx;have B:=jp (H.out.step i);have C:=jp (y.out.kept (i.block p y.out.lt));have J:=jp (CV f.out i);clear hx i A;cases x
    .go_wp2;go_ret2;exact ⟨L,none,.slice none 0 0,false,rfl,B.out,C.out,S.out none (Le K.out jo),by simpa using HX.out,fun h=>by cases h⟩
    .go_wp2;go_ret2;exact ⟨L,none,v,true,rfl,B.out,C.out,S.out none (Le K.out jo),by simpa using HX.out,fun _=>J.out⟩
   |some X=>
    go_wp2_with fail;refine F.out.mono ?_;rintro e M ⟨rfl,c⟩;replace H:=jp (H.out.step c);replace y:=jp (y.out.kept (c.block p y.out.lt));replace f:=jp (CV f.out c);have T:Hid (∀g,v.ownBlock=some g->g<M.heap.size):=fun g U=>(World.ownsRow.lt f.out g U).2
    have V:Hid (v.ownBlock≠some M.heap.size):=fun e=>by have:=T.out _ e;omega
    have q:=jp (St.new (tq:=57) (qc:=#[.string ⟨#[]⟩,.int .i64 0]) H.out y.out);replace f:=jp (World.ownsRow.alloc f.out (.cells #[.string ⟨#[]⟩,.int .i64 0] 57));have ap:=c.size;clear c F H y T S;have K1:=jp (Cp p _ 1 _ q.out.rs jo);go_wp2_with fail;refine K1.out.mono ?_;rintro e v1 ⟨sz,oa,rfl,m,s,af,z⟩;have al:sz<=255:=by have:(2:Nat) ^ (8 * 1)=256:=rfl;omega
    replace q:=jp (q.out.read m s);replace f:=jp (EP f.out m hp);have P1:=jp z;clear m s af z K1;have K2:=jp (Hf p _ sz _ q.out.rs jo);go_wp2_with fail;refine K2.out.mono ?_;rintro e v2 ⟨t,ob,rfl,m,s,ag,W⟩;have E:=q.out.read m s;have g0:=E.box.cell 0 rfl;have k0:=E.box.free 0;replace f:=jp (ownsRow_setCell_other (EP f.out m hp) V.out (a:=⟨M.heap.size,0,none⟩) (.string (Ai t)));replace q:=jp (E.put 0 (.string (Ai t)) (qc':=#[.string (Ai t),.int .i64 0]) rfl);have P2:=jp W;clear m s W K2 E ag;have K3:=jp (Cp p _ 1 _ q.out.rs jo);go_wp2_with fail;refine K3.out.mono ?_;rintro e v3 ⟨x,oc,rfl,m,s, -,Y⟩;have E:=q.out.read m s;have g1:=E.box.cell 1 rfl;have g2:=E.box.cell 0 rfl;have k1:=E.box.free 1;replace f:=jp (ownsRow_setCell_other (EP f.out m hp) V.out (a:=⟨M.heap.size,1,none⟩) (.int .i64 (x:Int)));replace q:=jp (E.put 1 (.int .i64 (x:Int)) (qc':=#[.string (Ai t),.int .i64 (x:Int)]) rfl);have P3:=jp Y;have ah:Hid (N.bind (BY Kw (k+1))=oc.map (Prod.mk (L++[(Ai t,(x:Int))]))):=OE K.out (Bw P1.out (Bw P2.out (Bw P3.out (GK _))));have Z:Hid (w.heap.size<=v3.heap.size):=by show _<=_;have:=q.out.1.size;simpa using this
    clear m s Y K3 E g0 k0 P1 P2 P3 K;have aq:L.length<=255:=by have:=HN.out;omega
    go_wp2_with (first|(at_builtin;refine wpList_append_own _ rfl _ _ 45 rfl w.heap.size 57 i0 (.agg #[.string ByteArray.empty,.int .i64 0]) 2 24 Tryz.underlying45 hi aa ab ac rfl ji _ L.length (AC L) rfl ?p1a ⟨v3.heap.size,0,none⟩ 1 1 [.string (Ai t),.int .i64 (x:Int)] rfl rfl ?da1 ?da2 ?da3 ?da4 ?da5 ?_))
    case p1a=>exact World.ownsRow.alloc f.out _
    try (case da1=>exact C8 _ _ _ _ _ js)
    case da2=>first|exact ⟨rfl,rfl⟩|exact Df rfl rfl|(intro u hu;simp at hu;rcases hu with rfl|rfl <;>rfl)
    case da3=>unfold maxLen;omega
    case da4=>omega
    case da5=>first|(have:=Z.out;omega)|(have:=Z.out;simp;omega)
    intro v5 w5 D l _;have ai:=jp (Mt (q.out.1.alloc _) l (fun g U=>(World.ownsRow.lt f.out g U).1));have aj:=jp (NY (q.out.rs.kept (Aa.block (Aa.step_alloc (jD _) _) p q.out.rs.lt)) l (fun g U=>(World.ownsRow.lt f.out g U).1) hp);have ak:Hid (AJ w.heap.size w5 v5 (L++[(Ai t,(x:Int))])):=AJ.snoc (b:=(Ai t,(x:Int))) D rfl;clear D l;go_wp2;go_roundg (n - (k+1))
    case measure=>omega
    case rel=>exact ⟨k+1,_,oc,_,rfl,rfl,jo,by go_num,ai.out,aj.out,by simpa using HN.out,ah.out,ak.out⟩
  .obtain rfl:k=n:=jo
   have A:=jp (NT L v wr (AJ.pool f.out) (by have:=HN.out;omega));clear F;go_wp2_with fail;refine A.out.mono ?_;rintro e w9 ⟨x,rfl,i,hx⟩;have HX:=jp hx;have B:=jp (H.out.step i);have C:=jp (y.out.kept (i.block p y.out.lt));have J:=jp (CV f.out i);clear hx i A;cases x
   .go_wp2;go_ret2;exact ⟨L,o',.slice none 0 0,false,rfl,B.out,C.out,S.out o' K.out,by simpa using HX.out,fun h=>by cases h⟩
   .go_wp2;go_ret2;exact ⟨L,o',v,true,rfl,B.out,C.out,S.out o' K.out,by simpa using HX.out,fun _=>J.out⟩
def FB (wp wo:Nat):List Bool->Option (EI×List Bool):=Bo (A9 wp) fun x=>Bo (A9 wo) fun y=>DT ((x:Int),(y:Int))
def Jg (e:EI):Prop:=0<=e.1/\e.1<18446744073709551616/\0<=e.2/\e.2<65536
def YS (p:Nat) (o:Option (List Bool)) (wp wo n:Nat) (w:jj) (e:Ending) (w':jj):Prop:=
 ∃(L:List EI) (o':Option (List Bool)) (v:ju),e= .returned v/\Ab [p] w w'/\Rs p o' w'/\o.bind (BY (FB wp wo) n)=o'.map (Prod.mk L)/\AS w.heap.size w' v L/\L.length<=n/\∀e∈L,Jg e
theorem Mi {x wp : Nat} (h : x < 2 ^ wp) (a : wp <= 64) : x < 18446744073709551616 := jN h (by
  have : (2 : Nat) ^ wp <= 2 ^ 64 := Nat.pow_le_pow_right ji a
  simpa using this)
theorem Ou {x wp : Nat} (h : x < 2 ^ wp) (a : wp <= 16) : x < 65536 := jN h (by
  have : (2 : Nat) ^ wp <= 2 ^ 16 := Nat.pow_le_pow_right ji a
  simpa using this)
theorem NB (p:Nat) (o:Option (List Bool)) (wp wo n:Nat) (w:jj) (h:Rs p o w) (h1:wp<=64) (h2:wo<=16) (hn:n<=65535):
  Calls Tryz.prog 149 #[.pointer (some ⟨p,0,none⟩),.agg #[.int .i64 (wp:Int),.int .i64 (wo:Int)],.int .i64 (n:Int)] w (YS p o wp wo n w):=by
 obtain ⟨i0,hi,Z,aa,ab⟩:=info_parts Tryz.infoEI;have hp:=h.lt;obtain ⟨A,l⟩:∃A,A=w.alloc (.cells #[.int .i64 (wp:Int),.int .i64 (wo:Int)] 187):=⟨_,rfl⟩;have M:Hid (Rs p o A):=by show Rs p o A;rw [l];exact h.kept (((jD w).step_alloc _).block p h.lt)
 have H:Hid (Ae w.heap.size 187 #[.int .i64 (wp:Int),.int .i64 (wo:Int)] A):=by show Ae _ _ _ A;rw [l];exact Ae.new _ _ _
 have N:A.heap.size=w.heap.size+1:=by rw [l];simp
 have O:Hid (Aa w A):=by show Aa w A;rw [l];exact (jD w).step_alloc _
 have C:=jp N;clear h N;go_enter Tryz.func149,Tryz.ntmps149;go_wp2_with fail;rw [<-l];clear l;go_loopg [7,8] n (fun r u d wr=>∃(k:Nat) (L:List EI) (o':Option (List Bool)) (v:ju),v=u/\r=n - k/\k<=n/\d= .int .i64 (k:Int)/\Ab [p] A wr/\Rs p o' wr/\L.length=k/\o.bind (BY (FB wp wo) k)=o'.map (Prod.mk L)/\AS w.heap.size wr v L/\∀e∈L,Jg e)
 case atStart=>
  refine ⟨0,[],o,_,rfl,rfl,jo,rfl,Ab.refl _ _,M.out,rfl,?_,World.ownsRow_nil _ _ _ _,fun e I=>by cases I⟩;cases o <;>rfl
 case round=>
  obtain ⟨k,L,o',v,rfl,hr,aj,rfl,m,D,G,hq,hO,hA⟩:=hrel;have E:=jp m;have B:=jp D;have U:=jp hq;have i:=jp hO;have V:=jp G;have W:=jp hA;have q:=jp (OQ p o' wr D);have ak:=m.size;clear m D hq hO G M hA;by_cases al:k<n
  .cases o' with
   |none=>
    go_wp2_with fail;refine q.out.mono ?_;rintro e J ⟨rfl,c⟩;replace E:=jp ((Ab.of_bel O.out).trans (E.out.step c));replace B:=jp (B.out.kept (c.block p B.out.lt));replace i:=jp (CV i.out c);clear c q;go_wp2;go_ret;exact ⟨L,none,v,rfl,E.out,B.out,Le U.out jo,i.out,by have:=V.out;omega,W.out⟩
   |some X=>
    go_wp2_with fail;refine q.out.mono ?_;rintro e J ⟨rfl,c⟩;replace E:=jp (E.out.step c);replace B:=jp (B.out.kept (c.block p B.out.lt));replace i:=jp (CV i.out c);have P:Hid (∀g,v.ownBlock=some g->g<J.heap.size):=fun g F=>(World.ownsRow.lt i.out g F).2
    have Q:Hid (v.ownBlock≠some J.heap.size):=fun e=>by have:=P.out _ e;omega
    have s:=jp (St.new (tq:=76) (qc:=#[.int .u64 0,.int .i64 0]) E.out B.out);replace i:=jp (World.ownsRow.alloc i.out (.cells #[.int .u64 0,.int .i64 0] 76));have am:=c.size;have an:w.heap.size≠J.heap.size:=by have:=C.out;omega
    have ao:w.heap.size<J.heap.size:=by have:=C.out;omega
    have x0:=(H.out.but E.out jx).cell 0 rfl;clear c q E B P;have K1:=jp (Lo p _ wp _ s.out.rs jo);go_wp2_with fail;refine K1.out.mono ?_;rintro e v1 ⟨x,oa,rfl,m,D,hx,R⟩;have t:=s.out.read m D;have g0:=t.box.cell 0 rfl;have k0:=t.box.free 0;have x1:=(H.out.but t.1 jx).cell 1 rfl;replace i:=jp (ownsRow_setCell_other (EP i.out m hp) Q.out (a:=⟨J.heap.size,0,none⟩) (.int .u64 (x:Int)));replace s:=jp (t.put 0 (.int .u64 (x:Int)) (qc':=#[.int .u64 (x:Int),.int .i64 0]) rfl);have P1:=jp R;have ac:=jp (Mi hx h1);clear m D hx R K1 t x0;have K2:=jp (Lo p _ wo _ s.out.rs jo);go_wp2_with fail;refine K2.out.mono ?_;rintro e v2 ⟨y,ob,rfl,m,D,hy,S⟩;have t:=s.out.read m D;have Y:=t.box.cell 1 rfl;have g2:=t.box.cell 0 rfl;have k1:=t.box.free 1;have ap:=Ou hy h2;replace i:=jp (ownsRow_setCell_other (EP i.out m hp) Q.out (a:=⟨J.heap.size,1,none⟩) (.int .i64 (y:Int)));replace s:=jp (t.put 1 (.int .i64 (y:Int)) (qc':=#[.int .u64 (x:Int),.int .i64 (y:Int)]) rfl);have P2:=jp S;have ad:Hid (o.bind (BY (FB wp wo) (k+1))=ob.map (Prod.mk (L++[((x:Int),(y:Int))]))):=OE U.out (Bw P1.out (Bw P2.out (GK _)))
    have ae:Hid (∀e∈L++[((x:Int),(y:Int))],Jg e):=fun e I=>by
     rcases jT.1 I with I|I
     .exact W.out e I
     .obtain rfl:=jP.1 I;have:=ac.out;exact ⟨jv,jv,jv,jv⟩
    have T:Hid (w.heap.size<=v2.heap.size):=by show _<=_;have:=s.out.1.size;have:=C.out;simp at *;omega
    clear m D S K2 t g0 k0 P1 P2 U hy x1 W;have aq:L.length<=65535:=by have:=V.out;omega
    go_wp2_with (first|(at_builtin;refine wpList_append_own _ rfl _ _ 46 rfl w.heap.size 76 i0 (.agg #[.int .u64 0,.int .i64 0]) 2 16 Tryz.underlying46 hi Z aa ab rfl ji _ L.length (Bf L) rfl ?p1a ⟨v2.heap.size,0,none⟩ 1 1 [.int .u64 (x:Int),.int .i64 (y:Int)] rfl rfl ?da1 ?da2 ?da3 ?da4 ?da5 ?_))
    case p1a=>exact World.ownsRow.alloc i.out _
    try (case da1=>exact C8 _ _ _ _ _ js)
    case da2=>first|exact ⟨rfl,rfl⟩|exact Df rfl rfl|(intro u hu;simp at hu;rcases hu with rfl|rfl <;>rfl)
    case da3=>unfold maxLen;omega
    case da4=>omega
    case da5=>first|(have:=T.out;omega)|(have:=T.out;simp;omega)
    intro v5 w5 z f _
    have af := jp (Mt (s.out.1.alloc _) f (fun g F => by
      have := (World.ownsRow.lt i.out g F).1
      have h3 : g ≠ w.heap.size := fun e => by
        rcases i.out.2 with ⟨Y, _⟩ | ⟨g', cap, ar, Y, _, g2, _⟩
        . rw [Y] at F; cases F
        . rw [Y] at F
          have ag : g' = w.heap.size := by rw [<- e]; simpa [Value.ownBlock] using F
          rw [ag] at g2
          have K := H.out.but s.out.1 (by simp; omega)
          rw [Ae, g2] at K
          injection K with K
          injection K with _ K
          revert K; decide
      have := C.out
      omega))
    have ah:=jp (NY (s.out.rs.kept (Aa.block (Aa.step_alloc (jD _) _) p s.out.rs.lt)) f (fun g F=>(World.ownsRow.lt i.out g F).1) hp);have ai:Hid (AS w.heap.size w5 v5 (L++[((x:Int),(y:Int))])):=AS.snoc (b:=((x:Int),(y:Int))) z rfl;clear z f;go_wp2;go_roundg (n - (k+1))
    case measure=>omega
    case rel=>exact ⟨k+1,_,ob,_,rfl,rfl,jo,by go_num,af.out,ah.out,by simpa using V.out,ad.out,ai.out,ae.out⟩
  .obtain rfl:k=n:=jo
   clear q;go_wp2;go_ret;exact ⟨L,o',v,rfl,(Ab.of_bel O.out).trans E.out,B.out,U.out,i.out,by have:=V.out;omega,W.out⟩
def Ei (c:Ac):Int:=if c.alg=2 then c.points else 1
theorem OM (c:Ac) (w:jj):Calls Tryz.prog 89 #[.agg c.cells] w (MR w (Ei c)):=by
 obtain ⟨alg,f,b,d,key,a⟩:=c;unfold Ei Ac.cells;by_cases h:alg=2
 .subst h;exact Ng f b d key a w
 .rw [if_neg h];exact N6 alg f b d key a w (by simp [h])
def GM (c:Ac) (B:List BK):Int:=if As B<1 then 0 else if Fq c.alg then Ei c * As B else c.slots
theorem Pd {B:List BK} (h:AL B):0<=As B/\As B<=48:=by
 have:=Kq B (fun b a=>(h.2 b a).2.2) B.length;rw [jR (jH _)] at this;have:=h.1;omega
theorem Mg {c:Ac} (h:c.TOK):1<=Ei c/\Ei c<=3:=by
 obtain ⟨a,b,d,f, -,g,i,k,l,m⟩:=h;unfold Ei;split <;>omega
theorem SL (c:Ac) (B:List BK) (v:ju) (w:jj) (J:Am w v B) (C:AL B) (K:c.TOK):
  Calls Tryz.prog 203 #[.agg c.cells,v] w (J0 w (GM c B)):=by
 have b:Hid (GM c B=if As B<1 then 0 else if Fq c.alg then Ei c * As B else c.slots):=rfl;have D:=Pd C;have E:=Mg K;have k:=fun s hx=>Mx B v s hx C
 have F:=fun s=>OM c s
 have G:=fun s=>Lu c.alg s
 have M:=jp J;generalize Ei c=H at *;generalize GM c B=V at *;generalize As B=q at *;obtain ⟨alg,g,d,f,key,a⟩:=c;simp only [Ac.cells] at *;obtain ⟨L,N⟩:=D;obtain ⟨W,O⟩:=E;generalize Fq alg=P at *;clear J C K;obtain ⟨r,i⟩:∃r,r=w.alloc (.cells #[.int .i64 alg,.int .i64 g,.int .i64 d,.int .i64 f,.string key,.int .i64 a] 30):=⟨_,rfl⟩;have l:Hid (Aa w r):=by show Aa w r;rw [i];exact (jD w).step_alloc _
 have t:Hid (Ae w.heap.size 30 #[.int .i64 alg,.int .i64 g,.int .i64 d,.int .i64 f,.string key,.int .i64 a] r):=by show Ae _ _ _ r;rw [i];exact Ae.new _ _ _
 go_enter Tryz.func203,Tryz.ntmps203;go_wp2_with fail;rw [<-i];refine (k _ (M.out.later l.out)).mono ?_;rintro e X ⟨rfl,m⟩;have z:=t.out.bel m;have n:=jp (l.out.trans m);have Q:=z.cell 0 rfl;have R:=z.cell 1 rfl;have u:=jp z;clear m z t l i k;by_cases A:q<1
 .rw [if_pos A] at b;go_wp2;go_ret;exact ⟨BO b.out.symm,n.out⟩
 .rw [if_neg A] at b;have S:decide (q<1)=false:=jK A;have T:1<=q:=jo
  clear A;go_wp2_with fail;refine (G _).mono ?_;rintro e Y ⟨rfl,o⟩;have p:=u.out.bel o;have Z:=p.cell 0 rfl;have d1:=p.cell 1 rfl;have d2:=p.cell 2 rfl;have d3:=p.cell 3 rfl;have d4:=p.cell 4 rfl;have d5:=p.cell 5 rfl;have x:=jp (n.out.trans o);clear p o u n Q R;cases P
  .rw [if_neg js] at b;go_wp2;go_ret;exact ⟨BO b.out.symm,x.out⟩
  .rw [if_pos rfl] at b
   have hm:H * q<=150:=by
    have:H * q<=3 * 48:=Int.mul_le_mul O N L jo;omega
   have U:0<=H * q:=Int.mul_nonneg jo L;go_wp2_with fail;refine (F _).mono ?_;rintro e w3 ⟨rfl,y⟩;have I:=jp (x.out.trans y);clear y;go_wp2;go_ret;exact ⟨BO b.out.symm,I.out⟩
def Fr (B:List BK) (x:Int):Prop:=∃(j:Nat) (h:j<B.length),x=(j:Int)/\0<B[j].2
theorem WV (q:Nat) (c:Ac) (f n:ju) (B:List BK) (x:Int) (w:jj) (o:Cx w q c f n) (p:Am w f B):
  Calls Tryz.prog 204 #[.pointer (some ⟨q,0,none⟩),.int .i64 x] w (Hv (Fr B x) w):=by
 obtain ⟨-,u, -⟩:=o;obtain ⟨v,cap,rfl,b⟩:=p.open;by_cases hx:0<=x
 .obtain ⟨j,rfl⟩:∃j:Nat,x=(j:Int):=⟨x.toNat,jo⟩;clear hx;by_cases k:j<B.length
  .obtain ⟨g,rfl,r,y⟩:=b j k
   have a:Hid (Fr B (j:Int)↔0<B[j].2):=by
    show _↔_;refine ⟨fun ⟨i,l,m,d⟩=>?_,fun h=>⟨j,k,rfl,h⟩⟩;obtain rfl:i=j:=jo
    exact d
   clear b r;generalize B[j].2=s at *;go_enter Tryz.func204,Tryz.ntmps204;go_wp2;go_ret;exact ⟨decide (0<s),rfl,jq,by rw [decide_eq_true_iff];exact a.out.symm⟩
  .have a:Hid (¬Fr B (j:Int)):=fun ⟨i,l,m,d⟩=>by omega
   clear b;go_enter Tryz.func204,Tryz.ntmps204;go_wp2;go_ret;exact ⟨false,rfl,jq,⟨fun h=>(by cases h),fun h=>absurd h a.out⟩⟩
 .have a:Hid (¬Fr B x):=fun ⟨i,l,m,d⟩=>by omega
  have t:x<0:=jo
  clear b hx;go_enter Tryz.func204,Tryz.ntmps204;go_wp2;go_ret;exact ⟨false,rfl,jq,⟨fun h=>(by cases h),fun h=>absurd h a.out⟩⟩
def Ii (a b:EI):Prop:=¬(b.1<a.1\/(a.1=b.1/\b.2<a.2))
def GC (E:List EI):Prop:=∀i (h:i+1<E.length),Ii E[i] E[i+1]
theorem VJ (E:List EI) (v:ju) (w:jj) (L:AR w v E) (V:E.length<=1048576):
  Calls Tryz.prog 205 #[v] w (Hv (GC E) w):=by
 obtain ⟨W,cap,rfl,o⟩:=L.open;go_enter Tryz.func205,Tryz.ntmps205;go_wp2;go_loopg [3] E.length (fun r n wr=>Aa w wr/\∃k:Nat,r=E.length - k/\n= .int .i64 ((k:Int)+1)/\k<=E.length/\∀i (h:i+1<E.length),i<k->Ii E[i] E[i+1])
 case atStart=>exact ⟨jD _,0,jo,rfl,jo,fun i h M=>by omega⟩
 case round=>
  obtain ⟨p,k,X,rfl,Y,a⟩:=hrel;have q:=jp a;clear a;by_cases l:k+1<E.length
  .obtain ⟨g,rfl,D,F⟩:=o k jo;obtain ⟨Z,u,G,H⟩:=o (k+1) l;cases u;have x:=p.cell D;have N:=p.cell F;have O:=p.cell G;have P:=p.cell H;have I:g<wr.heap.size:=jF x;have b:Hid (GC E->Ii E[k] E[k+1]):=fun h=>h k l
   have y:Hid (Ii E[k] E[k+1]->∀i (h:i+1<E.length),i<k+1->Ii E[i] E[i+1]):=fun Q i h M=>by
    by_cases z:i=k
    .subst z;exact Q
    .exact q.out i h jo
   clear o D F G H q;unfold Ii at b y;generalize E[k].1=c at *;generalize E[k].2=J at *;generalize E[k+1].1=d at *;generalize E[k+1].2=K at *;have A:((k:Int)+1<(E.length:Int)):=jo
   by_cases s:d<c
   .replace b:Hid (¬GC E):=fun h=>b.out h (Or.inl s)
    go_wp2;go_ret;exact ⟨false,rfl,jq,⟨fun h=>(by cases h),fun h=>absurd h b.out⟩⟩
   .have R:decide (d<c)=false:=jK s;have m:=jp s;clear s;cases B:(c==d)
    .have f:Hid (c≠d):=fun e=>by rw [e] at B;simp at B
     go_wp2;go_roundg (E.length - (k+1))
     case measure=>omega
     case rel=>exact ⟨jq,k+1,rfl,by go_num,jo,y.out (fun h=>by have S:=m.out;have q2:c≠d:=f.out;omega)⟩
    .have f:Hid (c=d):=by show c=d;simpa using B
     by_cases t:K<J
     .replace b:Hid (¬GC E):=fun h=>b.out h (Or.inr ⟨f.out,t⟩)
      go_wp2;go_ret;exact ⟨false,rfl,jq,⟨fun h=>(by cases h),fun h=>absurd h b.out⟩⟩
     .have T:decide (K<J)=false:=jK t;have C:=jp t;clear t;go_wp2;go_roundg (E.length - (k+1))
      case measure=>omega
      case rel=>exact ⟨jq,k+1,rfl,by go_num,jo,y.out (fun h=>by have S:=m.out;have q3:=C.out;omega)⟩
  .have U:Hid (GC E):=fun i h=>q.out i h jo
   have A:¬((k:Int)+1<(E.length:Int)):=jo
   clear o q;go_wp2;go_ret;exact ⟨true,rfl,jq,⟨fun _=>U.out,fun _=>rfl⟩⟩
def Dg (E:List EI) (k:Nat):Nat:=E.countP fun e=>e.2==(k:Int)
def Gs (c:Ac) (B:List BK) (E:List EI):Prop:=∀j (h:j<B.length),(Dg E j:Int)=Ei c * B[j].2
theorem UR (E:List EI) (k i:Nat) (h:i<E.length):Dg (E.take (i+1)) k=Dg (E.take i) k+(if E[i].2==(k:Int) then 1 else 0):=by
 rw [jQ h,Dg,Dg,List.countP_append];simp [List.countP_cons]
theorem VV (E:List EI) (k i:Nat):Dg (E.take i) k<=E.length:=jX List.countP_le_length (List.length_take_le' _ _)
theorem Th (q:Nat) (c:Ac) (vP vE:ju) (B:List BK) (E:List EI) (w:jj) (hT:Cx w q c vP vE) (hP:Am w vP B) (hE:AR w vE E) (hB:AL B) (aa:E.length<=1048576) (hc:c.TOK):
  Calls Tryz.prog 206 #[.pointer (some ⟨q,0,none⟩)] w (Hv (Gs c B E) w):=by
 have R:=Mg hc;have G:=fun wx=>OM c wx
 have H:∀j (h:j<B.length),Gs c B E->(Dg E j:Int)=Ei c * B[j].2:=fun j h k=>k j h
 have S:=jp H;have I:Hid ((∀j (h:j<B.length),(Dg E j:Int)=Ei c * B[j].2)->Gs c B E):=fun h=>h
 clear H;have HT:=jp hT;generalize Ei c=o at *;obtain ⟨⟨t0,t1,t2,t3,t4,t5⟩,t6,t7⟩:=hT;obtain ⟨aP,ab,rfl,y⟩:=hP.open;obtain ⟨aE,ac,rfl,z⟩:=hE.open;obtain ⟨h8,J⟩:=hB;obtain ⟨b1,b2⟩:=R;obtain ⟨alg,p,l,m,key,b⟩:=c;simp only [Ac.cells] at *;clear hP hE hc HT;go_enter Tryz.func206,Tryz.ntmps206;go_wp2;go_loopg [13] B.length (fun r n wr=>Aa w wr/\∃k:Nat,r=B.length - k/\k<=B.length/\n= .int .i64 k/\∀j (h:j<B.length),j<k->(Dg E j:Int)=o * B[j].2)
 case atStart=>exact ⟨jD _,0,jo,jo,rfl,fun j h hj=>by omega⟩
 case round=>
  obtain ⟨N,k,hr,hk,rfl,hA⟩:=hrel;have O:=jp hA;clear hA;by_cases A:k<B.length
  .obtain ⟨g,rfl,c0,c1⟩:=y k A;have ae:=N.cell c0;have af:=N.cell c1;have T:=(J _ (jJ A)).2.2;have HN:Hid (Gs ⟨alg,p,l,m,key,b⟩ B E->(Dg E k:Int)=o * B[k].2):=S.out k A
   have HY:Hid ((Dg E k:Int)=o * B[k].2->∀j (h:j<B.length),j<k+1->(Dg E j:Int)=o * B[j].2):=fun h0 j h hj=>by
    by_cases U:j=k
    .subst U;exact h0
    .exact O.out j h jo
   clear O c0 c1;generalize B[k].1=K at *;generalize B[k].2=u at *;obtain ⟨w1,w2⟩:=T;obtain ⟨F,v⟩:∃F,F=wr.alloc (.cells #[.string K,.int .i64 u] 57):=⟨_,rfl⟩;have x:Aa w F:=by rw [v];exact N.step_alloc _
   have V:Hid (Ae wr.heap.size 57 #[.string K,.int .i64 u] F):=by show Ae _ _ _ F;rw [v];exact Ae.new _ _ _
   have s7:=N.cell t7;have ad:q<wr.heap.size:=jF s7;go_wp2_with fail;rw [<-v];clear v;go_loopg [5,23] E.length (fun r s n wi=>Aa F wi/\∃i:Nat,r=E.length - i/\i<=E.length/\n= .int .i64 i/\s= .int .i64 (Dg (E.take i) k:Int))
   case atStart=>exact ⟨jD _,0,jo,jo,rfl,by simp [Dg]⟩
   case round=>
    obtain ⟨t,i,ag,hi,rfl,rfl⟩:=hrel;have W:=VV E k i;by_cases L:i<E.length
    .obtain ⟨ge,rfl,e0,e1⟩:=z i L;have ah:=(x.trans t).cell e0;have ai:=(x.trans t).cell e1;have P:Hid (Dg (E.take (i+1)) k=Dg (E.take i) k+(if E[i].2==(k:Int) then 1 else 0)):=UR E k i L;clear e0 e1;generalize E[i].1=pt at *;generalize E[i].2=ow at *;generalize Dg (E.take i) k=Q at *;cases ho:(ow==(k:Int))
     .rw [ho] at P;go_wp2;go_roundg (E.length - (i+1))
      case measure=>omega
      case rel=>exact ⟨jq,i+1,rfl,jo,by go_num,by rw [P.out];simp⟩
     .rw [ho] at P;go_wp2;go_roundg (E.length - (i+1))
      case measure=>omega
      case rel=>exact ⟨jq,i+1,rfl,jo,by go_num,by rw [P.out];simp⟩
    .have Y:i=E.length:=jo
     have C:E.take i=E:=jR jo;rw [C];rw [C] at W;have X:=V.out.bel t;have x1:=X.cell 1 rfl;have d:=x.trans t;have u0:=d.cell t0;have u1:=d.cell t1;have u2:=d.cell t2;have u3:=d.cell t3;have u4:=d.cell t4;have u5:=d.cell t5;have M:=jp d;have hm:0<=o * u:=Int.mul_nonneg jo jo
     have aj:o * u<=18:=by
      have:o * u<=3 * 6:=Int.mul_le_mul b2 w2 w1 jo;omega
     have ak:IntKind.i64.wrap (o * u)=o * u:=by rw [IntKind.wrap_i64];omega
     clear C Y X z y t x t0 t1 t2 t3 t4 t5 t6 t7 s7;generalize Dg E k=Q at *;cases hq:((Q:Int) !=o * u)
     .have Z:Hid ((Q:Int)=o * u):=by show _=_;simpa using hq
      go_wp2_with fail;go_region_with (go_at_call 89;refine (G _).mono ?_;rintro e w9 ⟨rfl,a⟩;have f:Aa wr w9:=(by first|exact a|exact (jB (jD wr)).trans a);have x9:=f.cell x1;have D:=jp (M.out.trans f);clear a f)
      all_goals
       go_wp2;go_roundg (B.length - (k+1))
       case measure=>omega
       case rel=>exact ⟨D.out,k+1,rfl,jo,by go_num,HY.out Z.out⟩
     .have Z:Hid (¬(Q:Int)=o * u):=by show ¬_;simpa using hq
      go_wp2_with fail;go_region_with (go_at_call 89;refine (G _).mono ?_;rintro e w9 ⟨rfl,a⟩;have f:Aa wr w9:=(by first|exact a|exact (jB (jD wr)).trans a);have x9:=f.cell x1;have D:=jp (M.out.trans f);clear a f)
      all_goals
       go_wp2;go_ret;exact ⟨false,rfl,D.out,⟨fun h=>(by cases h),fun h=>absurd (HN.out h) Z.out⟩⟩
  .have HE:Hid (Gs ⟨alg,p,l,m,key,b⟩ B E):=I.out (fun j h=>O.out j h jo);clear y z O;go_wp2;go_ret;exact ⟨true,rfl,jq,⟨fun _=>HE.out,fun _=>rfl⟩⟩
end Go.Proofs.YtpapdkhjdelfcaaGreat
