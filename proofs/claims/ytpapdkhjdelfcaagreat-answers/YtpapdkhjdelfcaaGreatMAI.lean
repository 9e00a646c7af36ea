import Derived.Test.YtpapdkhjdelfcaaGreatMAF
import Derived.Test.YtpapdkhjdelfcaaGreatMAH
import Derived.Deep.QuietTactic
import Derived.BigQuiet
namespace Go.Proofs.YtpapdkhjdelfcaaGreat
open Go.RowKit
set_option maxRecDepth 100000
set_option maxHeartbeats 4000000
variable {vL:Value}
theorem MT (N M:jr) (w:jj) (h:∀k∈N,w.heap.size<=k):Ay (N++M) w=Ay M w:=by
 unfold Ay;congr 1;apply Array.ext
 .simp
 .intro i a c;have d:i<w.heap.size:=by simpa using a
  have:i∉N:=fun b=>by have:=h i b;omega
  simp [this]
theorem Nu {M:jr} {base:Nat} {w:jj} {e:TypeId} {s:Nat} {v:ju} {n:Nat} {a:List Value} (h:w.ownsRow base e s v n a) (c:∀k∈M,k<base):Ap (Ay M w) v n a:=by
 rcases Ap.of_owns h with d|⟨g,cap,b,f,i,l⟩
 .exact Or.inl d
 .have m:=(h.lt g (by rw [b];rfl)).1;exact Or.inr ⟨g,cap,b,f,by rw [Eo];exact i,fun j u o=>Tr c jv (l j u o)⟩
theorem Ap.unmask {M:jr} {w:jj} {v:ju} {n:Nat} {a:List Value} (h:Ap (Ay M w) v n a):Ap w v n a:=by
 rcases h with c|⟨g,cap,d,f,b,i⟩
 .exact Or.inl c
 .exact Or.inr ⟨g,cap,d,f,by rw [Eo] at b;exact b,fun j u k=>(Bn.1 (i j u k)).1⟩
theorem Am.unmask {M:jr} {w:jj} {v:ju} {B:List BK} (h:Am (Ay M w) v B):Am w v B:=Ap.unmask h
theorem AR.unmask {M:jr} {w:jj} {v:ju} {B:List EI} (h:AR (Ay M w) v B):AR w v B:=Ap.unmask h
def Iu (q:Nat) (w:jj):Prop:=w.frozen? ⟨q,0,none⟩=false/\w.frozen? ⟨q,1,none⟩=false/\w.frozen? ⟨q,2,none⟩=false/\w.frozen? ⟨q,3,none⟩=false/\w.frozen? ⟨q,4,none⟩=false/\w.frozen? ⟨q,5,none⟩=false/\w.frozen? ⟨q,6,none⟩=false/\w.frozen? ⟨q,7,none⟩=false/\w.frozen? ⟨q,8,none⟩=false
def JA (a:ju) (q:Nat) (w:jj):Prop:=Iu q w/\w.cell? ⟨q,9,none⟩=some a/\w.frozen? ⟨q,9,none⟩=false
def Bt (d:ju) (M:jr) (q:Nat) (c:Ac) (B:List BK) (g:Int) (w:jj):Prop:=q∈M/\∃a b,Cx w q c a b/\w.cell? ⟨q,8,none⟩=some (.int .i64 g)/\JA d q w/\Am (Ay M w) a B/\AR (Ay M w) b (An c B)
theorem Iu.but {M':jr} {q:Nat} {w w':jj} (h:Iu q w) (k:Ab M' w w') (c:q∉M') (b:q<w.heap.size):Iu q w':=by
 obtain ⟨d,f,g,i,l,m,n,p,r⟩:=h;have a:∀o,w'.frozen? ⟨q,o,none⟩=w.frozen? ⟨q,o,none⟩:=fun o=>World.frozen?_of_block (w:=w) (k.block q b c)
 exact ⟨(a 0).trans d,(a 1).trans f,(a 2).trans g,(a 3).trans i,(a 4).trans l,(a 5).trans m,(a 6).trans n,(a 7).trans p,(a 8).trans r⟩
theorem JA.but {M':jr} {q:Nat} {w w':jj} (h:JA vL q w) (k:Ab M' w w') (b:q∉M') (a:q<w.heap.size):JA vL q w':=
 ⟨h.1.but k b a,k.cell h.2.1 b,(World.frozen?_of_block (w:=w) (k.block q a b)).trans h.2.2⟩
theorem Cx.but {M':jr} {q:Nat} {c:Ac} {b d:ju} {w w':jj} (h:Cx w q c b d) (k:Ab M' w w') (a:q∉M'):Cx w' q c b d:=by
 obtain ⟨⟨f,g,i,l,m,n⟩,o,p⟩:=h;exact ⟨⟨k.cell f a,k.cell g a,k.cell i a,k.cell l a,k.cell m a,k.cell n a⟩,k.cell o a,k.cell p a⟩
theorem Bt.lt {M:jr} {q:Nat} {c:Ac} {B:List BK} {g:Int} {w:jj} (h:Bt vL M q c B g w):q<w.heap.size:=by
 obtain ⟨_,_,_,_,a,_⟩:=h;exact jF a
theorem Bt.but {M M':jr} {q:Nat} {c:Ac} {B:List BK} {g:Int} {w w':jj} (h:Bt vL M q c B g w) (k:Ab M' w w') (a:q∉M') (f:∀j∈M',j∈M\/w.heap.size<=j):Bt vL M q c B g w':=by
 have b:=h.lt;obtain ⟨i,l,m,n,o,hF,p,r⟩:=h;have d:Aa (Ay M w) (Ay M w'):=k.mono f;exact ⟨i,l,m,n.but k a,k.cell o a,hF.but k a b,p.later d,r.later d⟩
theorem Bt.later {M:jr} {q:Nat} {c:Ac} {B:List BK} {g:Int} {w w':jj} (h:Bt vL M q c B g w) (k:Aa w w'):Bt vL M q c B g w':=h.but (M':=[]) (Ab.of_bel k) js js
theorem Bt.grow {M:jr} {q:Nat} {c:Ac} {B:List BK} {g:Int} {w:jj} (h:Bt vL M q c B g w) (N:jr) (d:∀k∈N,w.heap.size<=k):Bt vL (N++M) q c B g w:=by
 obtain ⟨f,i,l,m,n,hF,a,b⟩:=h;rw [<-MT N M w d] at a b;exact ⟨jU _ f,i,l,m,n,hF,a,b⟩
def P8 (a:ju) (M:jr) (q:Nat) (c:Ac) (B:List BK) (g:Int) (w:jj) (e:Ending) (w':jj):Prop:=e= .returned (.tuple #[])/\Ab [q] w w'/\Bt a M q c B g w'
def Fh (b:ju) (M:jr) (q:Nat) (c:Ac) (B:List BK) (g:Int) (a:Int) (w:jj) (e:Ending) (w':jj):Prop:=e= .returned (.int .i64 a)/\Ab [q] w w'/\Bt b M q c B g w'
theorem TK {w:jj} {q:Nat} {u0 u1 u2 u3 u4 u5 u6 u7 u8:ju} (a b c d f g i k l:ju) (m:w.cell? ⟨q,0,none⟩=some u0) (n:w.cell? ⟨q,1,none⟩=some u1) (o:w.cell? ⟨q,2,none⟩=some u2) (p:w.cell? ⟨q,3,none⟩=some u3) (r:w.cell? ⟨q,4,none⟩=some u4) (s:w.cell? ⟨q,5,none⟩=some u5) (t:w.cell? ⟨q,6,none⟩=some u6) (u:w.cell? ⟨q,7,none⟩=some u7) (x:w.cell? ⟨q,8,none⟩=some u8):
  (((((((((w.setCell ⟨q,0,none⟩ a).setCell ⟨q,1,none⟩ b).setCell ⟨q,2,none⟩ c).setCell ⟨q,3,none⟩ d).setCell ⟨q,4,none⟩ f).setCell ⟨q,5,none⟩ g).setCell ⟨q,6,none⟩ i).setCell ⟨q,7,none⟩ k).setCell ⟨q,8,none⟩ l).cell? ⟨q,0,none⟩=some a/\(((((((((w.setCell ⟨q,0,none⟩ a).setCell ⟨q,1,none⟩ b).setCell ⟨q,2,none⟩ c).setCell ⟨q,3,none⟩ d).setCell ⟨q,4,none⟩ f).setCell ⟨q,5,none⟩ g).setCell ⟨q,6,none⟩ i).setCell ⟨q,7,none⟩ k).setCell ⟨q,8,none⟩ l).cell? ⟨q,1,none⟩=some b/\(((((((((w.setCell ⟨q,0,none⟩ a).setCell ⟨q,1,none⟩ b).setCell ⟨q,2,none⟩ c).setCell ⟨q,3,none⟩ d).setCell ⟨q,4,none⟩ f).setCell ⟨q,5,none⟩ g).setCell ⟨q,6,none⟩ i).setCell ⟨q,7,none⟩ k).setCell ⟨q,8,none⟩ l).cell? ⟨q,2,none⟩=some c/\(((((((((w.setCell ⟨q,0,none⟩ a).setCell ⟨q,1,none⟩ b).setCell ⟨q,2,none⟩ c).setCell ⟨q,3,none⟩ d).setCell ⟨q,4,none⟩ f).setCell ⟨q,5,none⟩ g).setCell ⟨q,6,none⟩ i).setCell ⟨q,7,none⟩ k).setCell ⟨q,8,none⟩ l).cell? ⟨q,3,none⟩=some d/\(((((((((w.setCell ⟨q,0,none⟩ a).setCell ⟨q,1,none⟩ b).setCell ⟨q,2,none⟩ c).setCell ⟨q,3,none⟩ d).setCell ⟨q,4,none⟩ f).setCell ⟨q,5,none⟩ g).setCell ⟨q,6,none⟩ i).setCell ⟨q,7,none⟩ k).setCell ⟨q,8,none⟩ l).cell? ⟨q,4,none⟩=some f/\(((((((((w.setCell ⟨q,0,none⟩ a).setCell ⟨q,1,none⟩ b).setCell ⟨q,2,none⟩ c).setCell ⟨q,3,none⟩ d).setCell ⟨q,4,none⟩ f).setCell ⟨q,5,none⟩ g).setCell ⟨q,6,none⟩ i).setCell ⟨q,7,none⟩ k).setCell ⟨q,8,none⟩ l).cell? ⟨q,5,none⟩=some g/\(((((((((w.setCell ⟨q,0,none⟩ a).setCell ⟨q,1,none⟩ b).setCell ⟨q,2,none⟩ c).setCell ⟨q,3,none⟩ d).setCell ⟨q,4,none⟩ f).setCell ⟨q,5,none⟩ g).setCell ⟨q,6,none⟩ i).setCell ⟨q,7,none⟩ k).setCell ⟨q,8,none⟩ l).cell? ⟨q,6,none⟩=some i/\(((((((((w.setCell ⟨q,0,none⟩ a).setCell ⟨q,1,none⟩ b).setCell ⟨q,2,none⟩ c).setCell ⟨q,3,none⟩ d).setCell ⟨q,4,none⟩ f).setCell ⟨q,5,none⟩ g).setCell ⟨q,6,none⟩ i).setCell ⟨q,7,none⟩ k).setCell ⟨q,8,none⟩ l).cell? ⟨q,7,none⟩=some k/\(((((((((w.setCell ⟨q,0,none⟩ a).setCell ⟨q,1,none⟩ b).setCell ⟨q,2,none⟩ c).setCell ⟨q,3,none⟩ d).setCell ⟨q,4,none⟩ f).setCell ⟨q,5,none⟩ g).setCell ⟨q,6,none⟩ i).setCell ⟨q,7,none⟩ k).setCell ⟨q,8,none⟩ l).cell? ⟨q,8,none⟩=some l:=by
 exact ⟨by rw [Ad js,Ad js,Ad js,Ad js,Ad js,Ad js,Ad js,Ad js];exact Bc (v:=u0) (by exact m),by rw [Ad js,Ad js,Ad js,Ad js,Ad js,Ad js,Ad js];exact Bc (v:=u1) (by rw [Ad js];exact n),by rw [Ad js,Ad js,Ad js,Ad js,Ad js,Ad js];exact Bc (v:=u2) (by rw [Ad js,Ad js];exact o),by rw [Ad js,Ad js,Ad js,Ad js,Ad js];exact Bc (v:=u3) (by rw [Ad js,Ad js,Ad js];exact p),by rw [Ad js,Ad js,Ad js,Ad js];exact Bc (v:=u4) (by rw [Ad js,Ad js,Ad js,Ad js];exact r),by rw [Ad js,Ad js,Ad js];exact Bc (v:=u5) (by rw [Ad js,Ad js,Ad js,Ad js,Ad js];exact s),by rw [Ad js,Ad js];exact Bc (v:=u6) (by rw [Ad js,Ad js,Ad js,Ad js,Ad js,Ad js];exact t),by rw [Ad js];exact Bc (v:=u7) (by rw [Ad js,Ad js,Ad js,Ad js,Ad js,Ad js,Ad js];exact u),by exact Bc (v:=u8) (by rw [Ad js,Ad js,Ad js,Ad js,Ad js,Ad js,Ad js,Ad js];exact x)⟩
theorem Zb {w:jj} {q:Nat} (a b c d f g i k l:ju) (h:Iu q w):Iu q (((((((((w.setCell ⟨q,0,none⟩ a).setCell ⟨q,1,none⟩ b).setCell ⟨q,2,none⟩ c).setCell ⟨q,3,none⟩ d).setCell ⟨q,4,none⟩ f).setCell ⟨q,5,none⟩ g).setCell ⟨q,6,none⟩ i).setCell ⟨q,7,none⟩ k).setCell ⟨q,8,none⟩ l):=by
 obtain ⟨m,n,o,p,r,s,t,u,v⟩:=h;exact ⟨by rw [Ag,Ag,Ag,Ag,Ag,Ag,Ag,Ag,Ag];exact m,by rw [Ag,Ag,Ag,Ag,Ag,Ag,Ag,Ag,Ag];exact n,by rw [Ag,Ag,Ag,Ag,Ag,Ag,Ag,Ag,Ag];exact o,by rw [Ag,Ag,Ag,Ag,Ag,Ag,Ag,Ag,Ag];exact p,by rw [Ag,Ag,Ag,Ag,Ag,Ag,Ag,Ag,Ag];exact r,by rw [Ag,Ag,Ag,Ag,Ag,Ag,Ag,Ag,Ag];exact s,by rw [Ag,Ag,Ag,Ag,Ag,Ag,Ag,Ag,Ag];exact t,by rw [Ag,Ag,Ag,Ag,Ag,Ag,Ag,Ag,Ag];exact u,by rw [Ag,Ag,Ag,Ag,Ag,Ag,Ag,Ag,Ag];exact v⟩
theorem Md (M:jr) (q:Nat) (c:Ac) (B n:List BK) (g:Int) (v:ju) (w:jj) (hS:Bt vL M q c B g w) (P:∀k∈M,k<w.heap.size) (Q:c.OK) (hP:Am w v n) (hB:AL n) (aa:0<=g) (ab:g<=4611686018427387904):
  Calls Tryz.prog 29 #[.pointer (some ⟨q,0,none⟩),v] w (P8 vL M q c n (g+1) w):=by
 have o:=UT c n v w hP hB Q;obtain ⟨R,ac,ad,⟨⟨C,D,F,G,H,I⟩,J,K⟩,A,⟨⟨S,T,U,V,W,X,Y,Z,f8⟩,L,f9⟩, -, -⟩:=hS;have hq:q<w.heap.size:=jF A;unfold P8 Bt;obtain ⟨E,hE⟩:∃E,E=An c n:=⟨_,rfl⟩;unfold MC at o;rw [<-hE] at o |-;clear hE Q;unfold Cx;obtain ⟨alg,i,d,f,key,b⟩:=c;simp only [Ac.cells,DW] at *;go_enter Tryz.func29,Tryz.ntmps29;go_wp2_with fail;refine o.mono ?_;rintro e t ⟨vP,vE,rfl,a,r,s⟩;obtain ⟨N,l,rfl⟩:=CP r;obtain ⟨O,m,rfl⟩:=CP s;have u:Am (Ay M t) _ n:=Nu r P;have x:AR (Ay M t) _ E:=Nu s P;clear r s o;have HP:=jp u;have HE:=jp x;clear u x;have k0:=a.cell C;have k1:=a.cell D;have k2:=a.cell F;have k3:=a.cell G;have k4:=a.cell H;have k5:=a.cell I;have k6:=a.cell J;have k7:=a.cell K;have k8:=a.cell A;have k9:=a.cell L;have e0:=a.frozen C S;have e1:=a.frozen D T;have e2:=a.frozen F U;have e3:=a.frozen G V;have e4:=a.frozen H W;have e5:=a.frozen I X;have e6:=a.frozen J Y;have e7:=a.frozen K Z;have e8:=a.frozen A f8;have e9:=a.frozen L f9;clear C D F G H I J K A L S T U V W X Y Z f8 f9;go_wp2;go_end0;obtain ⟨y0,y1,y2,y3,y4,y5,y6,y7,y8⟩:=TK (.int .i64 alg) (.int .i64 i) (.int .i64 d) (.int .i64 f) (.string key) (.int .i64 b) (.slice N n.length l) (.slice O E.length m) (.int .i64 (g+1)) k0 k1 k2 k3 k4 k5 k6 k7 k8;have yf:=Zb (w:=t) (q:=q) (.int .i64 alg) (.int .i64 i) (.int .i64 d) (.int .i64 f) (.string key) (.int .i64 b) (.slice N n.length l) (.slice O E.length m) (.int .i64 (g+1)) ⟨e0,e1,e2,e3,e4,e5,e6,e7,e8⟩;have y:Ab [q] t _:=((((((((((Ab.refl [q] t).set (p:=⟨q,0,none⟩) js (.int .i64 alg)).set (p:=⟨q,1,none⟩) js (.int .i64 i)).set (p:=⟨q,2,none⟩) js (.int .i64 d)).set (p:=⟨q,3,none⟩) js (.int .i64 f)).set (p:=⟨q,4,none⟩) js (.string key)).set (p:=⟨q,5,none⟩) js (.int .i64 b)).set (p:=⟨q,6,none⟩) js (.slice N n.length l)).set (p:=⟨q,7,none⟩) js (.slice O E.length m)).set (p:=⟨q,8,none⟩) js (.int .i64 (g+1)));have z:=y.mono (M':=M) (fun k hk=>Or.inl (by simp at hk;subst hk;exact R));exact ⟨rfl,(Ab.of_bel a).trans y,R,_,_,⟨⟨y0,y1,y2,y3,y4,y5⟩,y6,y7⟩,y8,⟨yf,by rw [Ad js,Ad js,Ad js,Ad js,Ad js,Ad js,Ad js,Ad js,Ad js];exact k9,by rw [Ag,Ag,Ag,Ag,Ag,Ag,Ag,Ag,Ag];exact e9⟩,HP.out.later z,HE.out.later z⟩
variable {vL:Value}
theorem LF (id:jt) (w:jj):Calls Tryz.prog 25 #[.string id] w fun e w'=>e= .returned (.bool (decide (1<=id.size/\id.size<=8)))/\w=w':=by
 by_cases h:1<=(id.size:Int)/\(id.size:Int)<=8
 .have a:decide (1<=id.size/\id.size<=8)=true:=jL jo;rw [a];go_enter Tryz.func25,Tryz.ntmps25;go_wp2_with fail;refine (De _ _ _ _ h.1 h.2).mono ?_;rintro e w' ⟨rfl,rfl⟩;go_wp2;go_ret;exact ⟨rfl,rfl⟩
 .have a:decide (1<=id.size/\id.size<=8)=false:=jK jo;rw [a];go_enter Tryz.func25,Tryz.ntmps25;go_wp2_with fail;refine (G5 _ _ _ _ h).mono ?_;rintro e w' ⟨rfl,rfl⟩;go_wp2;go_ret;exact ⟨rfl,rfl⟩
theorem Mn (x:Int) (w:jj):Calls Tryz.prog 26 #[.int .i64 x] w fun e w'=>e= .returned (.bool (decide (0<=x/\x<=6)))/\w=w':=by
 by_cases h:0<=x/\x<=6
 .have a:decide (0<=x/\x<=6)=true:=jL h;rw [a];go_enter Tryz.func26,Tryz.ntmps26;go_wp2_with fail;refine (De _ _ _ _ h.1 h.2).mono ?_;rintro e w' ⟨rfl,rfl⟩;go_wp2;go_ret;exact ⟨rfl,rfl⟩
 .have a:decide (0<=x/\x<=6)=false:=jK h;rw [a];go_enter Tryz.func26,Tryz.ntmps26;go_wp2_with fail;refine (G5 _ _ _ _ h).mono ?_;rintro e w' ⟨rfl,rfl⟩;go_wp2;go_ret;exact ⟨rfl,rfl⟩
theorem Fh.same {M:jr} {q:Nat} {c:Ac} {B:List BK} {g a:Int} {w w':jj} (d:Bt vL M q c B g w) (b:Aa w w'):Fh vL M q c B g a w (.returned (.int .i64 a)) w':=⟨rfl,Ab.of_bel b,d.later b⟩
theorem KV (M:jr) (q:Nat) (c:Ac) (B:List BK) (g:Int) (id:jt) (n:Int) (w:jj) (o:Bt vL M q c B g w) (R:∀k∈M,k<w.heap.size) (S:c.OK) (v:AH B) (F:0<=g) (G:g<=4611686018427387904):
  Calls Tryz.prog 20 #[.pointer (some ⟨q,0,none⟩),.string id,.int .i64 n] w (Fh vL M q c (Dj B id n) (if Cw B id n=0 then g+1 else g) (Cw B id n) w):=by
 have a:=v.add id n;have h8:=v.1.1;have H:=o;obtain ⟨hm,T,vE,⟨⟨h0,h1,h2,h3,h4,h5⟩,P,h7⟩,hg,hF,r,s⟩:=H;have u:=r.unmask;have f:=J8 B T id w u jo;by_cases x:id.size<1\/8<id.size
 .have l:Cw B id n=2:=by unfold Cw;rw [if_pos x]
  unfold Dj;rw [l];simp only [show ((2:Int)=0)=False from by simp,if_false];have b:=LF id w;rw [show decide (1<=id.size/\id.size<=8)=false from jK jo] at b;go_enter Tryz.func20,Tryz.ntmps20;go_wp2_with fail;refine b.mono ?_;rintro e w' ⟨rfl,rfl⟩;go_wp2;go_ret;exact Fh.same o (jD _)
 have b:=LF id w;rw [show decide (1<=id.size/\id.size<=8)=true from jL jo] at b;have i:=Mn n w;by_cases E:n<0\/6<n
 .have l:Cw B id n=5:=by unfold Cw;rw [if_neg x,if_pos E]
  unfold Dj;rw [l];simp only [show ((5:Int)=0)=False from by simp,if_false];rw [show decide (0<=n/\n<=6)=false from jK jo] at i;go_enter Tryz.func20,Tryz.ntmps20;go_wp2_with fail;refine b.mono ?_;rintro e w' ⟨rfl,rfl⟩;go_wp2_with fail;refine i.mono ?_;rintro e w' ⟨rfl,rfl⟩;go_wp2;go_ret;exact Fh.same o (jD _)
 rw [show decide (0<=n/\n<=6)=true from jL jo] at i;unfold J9 Dr at f;by_cases y:Bq id B<B.length
 .have l:Cw B id n=3:=by unfold Cw;rw [if_neg x,if_neg E,if_pos y]
  unfold Dj;rw [l];simp only [show ((3:Int)=0)=False from by simp,if_false];rw [if_pos y] at f;have z:=jp o;clear o a v r s u hF;generalize Bq id B=p at *;go_enter Tryz.func20,Tryz.ntmps20;go_wp2_with fail;refine b.mono ?_;rintro e w' ⟨rfl,rfl⟩;go_wp2_with fail;refine i.mono ?_;rintro e w' ⟨rfl,rfl⟩;go_wp2_with fail;refine f.mono ?_;rintro e I ⟨rfl,d⟩;go_wp2;go_ret;exact Fh.same z.out d
 rw [if_neg y] at f;obtain ⟨U,A,rfl, -⟩:=u.open;by_cases Q:8<=B.length
 .have l:Cw B id n=6:=by unfold Cw;rw [if_neg x,if_neg E,if_neg y,if_pos Q]
  unfold Dj;rw [l];simp only [show ((6:Int)=0)=False from by simp,if_false];have z:=jp o;clear o a v r s u hF;have V:decide ((B.length:Int)>=8)=true:=jL jo;go_enter Tryz.func20,Tryz.ntmps20;go_wp2_with fail;refine b.mono ?_;rintro e w' ⟨rfl,rfl⟩;go_wp2_with fail;refine i.mono ?_;rintro e w' ⟨rfl,rfl⟩;go_wp2_with fail;refine f.mono ?_;rintro e I ⟨rfl,d⟩;have W:=d.cell P;go_wp2;go_ret;exact Fh.same z.out d
 have l:Cw B id n=0:=by unfold Cw;rw [if_neg x,if_neg E,if_neg y,if_neg Q]
 have C:Dj B id n=Bg (id,n) B:=by unfold Dj;rw [if_pos l]
 rw [C] at a |-;rw [l];simp only [if_true];have V:decide ((B.length:Int)>=8)=false:=jK jo;have z:=jp o;have X:=jp u;have Y:=jp a;clear o a v r s u hF l C;generalize J:Bg (id,n) B=Z at *;go_enter Tryz.func20,Tryz.ntmps20;go_wp2_with fail;refine b.mono ?_;rintro e w' ⟨rfl,rfl⟩;go_wp2_with fail;refine i.mono ?_;rintro e w' ⟨rfl,rfl⟩;go_wp2_with fail;refine f.mono ?_;rintro e I ⟨rfl,d⟩;have W:=d.cell P;have t:=Wz B (.slice U B.length A) (id,n) I (X.out.later d) jo;rw [J] at t;go_wp2_with fail;refine t.mono ?_;rintro e w2 ⟨v2,rfl,K,D⟩;have m:=d.trans K;have L:=Md M q c B Z g v2 w2 (z.out.later m) (fun k hk=>jN (R k hk) m.size) S D.pool Y.out.1 F G;clear t D;go_wp2_with fail;refine L.mono ?_;rintro e w3 ⟨rfl,N,O⟩;go_wp2;go_ret;exact ⟨rfl,(Ab.of_bel m).trans N,O⟩
theorem SG (M:jr) (q:Nat) (c:Ac) (B:List BK) (g:Int) (id:jt) (w:jj) (m:Bt vL M q c B g w) (J:∀k∈M,k<w.heap.size) (K:c.OK) (u:AH B) (x:0<=g) (y:g<=4611686018427387904):
  Calls Tryz.prog 60 #[.pointer (some ⟨q,0,none⟩),.string id] w (Fh vL M q c (EQ B id) (if Ej B id=0 then g+1 else g) (Ej B id) w):=by
 have a:=u.rem id;have T:=u.1.1;have z:=m;obtain ⟨U,H,V,⟨⟨W,X,Y,Z,h4,h5⟩,L,h7⟩,hg,hF,i,n⟩:=z;have v:=i.unmask;have b:=J8 B H id w v jo;unfold J9 Dr at b;by_cases o:Bq id B<B.length
 rotate_left
 .have r:Ej B id=4:=by unfold Ej;rw [if_neg o]
  unfold EQ;rw [r];simp only [show ((4:Int)=0)=False from by simp,if_false];rw [if_neg o] at b;have A:=jp m;clear m a u i n v hF;go_enter Tryz.func60,Tryz.ntmps60;go_wp2_with fail;refine b.mono ?_;rintro e I ⟨rfl,d⟩;go_wp2;go_ret;exact Fh.same A.out d
 have r:Ej B id=0:=by unfold Ej;rw [if_pos o]
 have s:EQ B id=B.eraseIdx (Bq id B):=by unfold EQ;rw [if_pos r]
 rw [s] at a |-;rw [r];simp only [if_true];rw [if_pos o] at b;have A:=jp m;have N:=jp v;have O:=jp a;clear m a u i n v hF r s;generalize Bq id B=p at *;generalize C:B.eraseIdx p=P at *;go_enter Tryz.func60,Tryz.ntmps60;go_wp2_with fail;refine b.mono ?_;rintro e I ⟨rfl,d⟩;have k6:=d.cell L;have l:=Yt B H p I (N.out.later d) jo o;rw [C] at l;go_wp2_with fail;refine l.mono ?_;rintro e Q ⟨R,rfl,D,t⟩;have f:=d.trans D;have E:=Md M q c B P g R Q (A.out.later f) (fun k S=>jN (J k S) f.size) K t.pool O.out.1 x y;clear l t;go_wp2_with fail;refine E.mono ?_;rintro e w3 ⟨rfl,F,G⟩;go_wp2;go_ret;exact ⟨rfl,(Ab.of_bel f).trans F,G⟩
theorem Qt (M:jr) (q:Nat) (c:Ac) (B:List BK) (g:Int) (id:jt) (n:Int) (w:jj) (r:Bt vL M q c B g w) (N:∀k∈M,k<w.heap.size) (O:c.OK) (x:AH B) (z:0<=g) (A:g<=4611686018427387904):
  Calls Tryz.prog 61 #[.pointer (some ⟨q,0,none⟩),.string id,.int .i64 n] w (Fh vL M q c (Er B id n) (if Dy B id n=0 then g+1 else g) (Dy B id n) w):=by
 have a:=x.set id n;have W:=x.1.1;have C:=r;obtain ⟨X,K,Y,⟨⟨Z,h1,h2,h3,h4,h5⟩,P,h7⟩,hg,hF,l,t⟩:=C;have y:=l.unmask;have b:=J8 B K id w y jo;unfold J9 Dr at b;have d:=Mn n w;by_cases D:n<0\/6<n
 .have m:Dy B id n=5:=by unfold Dy;rw [if_pos D]
  unfold Er;rw [m];simp only [show ((5:Int)=0)=False from by simp,if_false];rw [show decide (0<=n/\n<=6)=false from jK jo] at d;go_enter Tryz.func61,Tryz.ntmps61;go_wp2_with fail;refine d.mono ?_;rintro e w' ⟨rfl,rfl⟩;go_wp2;go_ret;exact Fh.same r (jD _)
 rw [show decide (0<=n/\n<=6)=true from jL jo] at d;by_cases s:Bq id B<B.length
 rotate_left
 .have m:Dy B id n=4:=by unfold Dy;rw [if_neg D,if_neg s]
  unfold Er;rw [m];simp only [show ((4:Int)=0)=False from by simp,if_false];rw [if_neg s] at b;have E:=jp r;clear r a x l t y hF;go_enter Tryz.func61,Tryz.ntmps61;go_wp2_with fail;refine d.mono ?_;rintro e w' ⟨rfl,rfl⟩;go_wp2_with fail;refine b.mono ?_;rintro e L ⟨rfl,f⟩;go_wp2;go_ret;exact Fh.same E.out f
 have m:Dy B id n=0:=by unfold Dy;rw [if_neg D,if_pos s]
 have u:Er B id n=B.set (Bq id B) (B[Bq id B].1,n):=by unfold Er;rw [if_pos m,Ho s]
 rw [u] at a |-;rw [m];simp only [if_true];rw [if_pos s] at b;have E:=jp r;have Q:=jp y;have R:=jp a;clear r a x l t y hF m u;generalize Bq id B=p at *;generalize F:B.set p (B[p].1,n)=S at *;go_enter Tryz.func61,Tryz.ntmps61;go_wp2_with fail;refine d.mono ?_;rintro e w' ⟨rfl,rfl⟩;go_wp2_with fail;refine b.mono ?_;rintro e L ⟨rfl,f⟩;have k6:=f.cell P;have o:=RC B K p n L (Q.out.later f) jo s;rw [F] at o;go_wp2_with fail;refine o.mono ?_;rintro e T ⟨U,rfl,G,v⟩;have i:=f.trans G;have H:=Md M q c B S g U T (E.out.later i) (fun k V=>jN (N k V) i.size) O v.pool R.out.1 z A;clear o v;go_wp2_with fail;refine H.mono ?_;rintro e w3 ⟨rfl,I,J⟩;go_wp2;go_ret;exact ⟨rfl,(Ab.of_bel i).trans I,J⟩
theorem YQ (M:jr) (q:Nat) (c:Ac) (B:List BK) (g:Int) (w:jj) (a:Bt vL M q c B g w):
  Calls Tryz.prog 66 #[.pointer (some ⟨q,0,none⟩)] w fun e w'=>e= .returned (.int .i64 g)/\w=w':=by
 obtain ⟨-,b,d, -,f, -⟩:=a;go_enter Tryz.func66,Tryz.ntmps66;go_wp2;go_ret;exact ⟨rfl,rfl⟩
theorem PP (M:jr) (q:Nat) (c:Ac) (B:List BK) (g:Int) (w:jj) (i:Bt vL M q c B g w) (k:(An c B).length<=65536):
  Calls Tryz.prog 21 #[.pointer (some ⟨q,0,none⟩)] w (Lx w (CM B (An c B))):=by
 obtain ⟨-,l,m,f,r, -,a,b⟩:=i;have n:=XG q c l m B (An c B) w f a.unmask b.unmask k;generalize CM B (An c B)=s at *;clear f a b;go_enter Tryz.func21,Tryz.ntmps21;go_wp2_with fail;refine n.mono ?_;rintro e t ⟨v,rfl,o,p,d⟩;go_wp2;go_ret;exact ⟨_,rfl,o,p,d⟩
def IT (c:Ac) (B:List BK) (g:Int) (k:jt):ByteArray×Int:=if g=0 then (ByteArray.empty,7) else Ee c B k
theorem U1 (M:jr) (q:Nat) (c:Ac) (B:List BK) (g:Int) (k:jt) (w:jj) (l:Bt vL M q c B g w) (m:(An c B).length<=65536) (n:c.OK) (o:k.size<=4611686018427386000):
  Calls Tryz.prog 68 #[.pointer (some ⟨q,0,none⟩),.string k] w (EH w (IT c B g k)):=by
 obtain ⟨-,p,r,f,u, -,a,b⟩:=l;have i:=XF q c p r B (An c B) k w f a.unmask b.unmask m n o;rw [<-Q8] at i;unfold IT;generalize Ee c B k=X at *;obtain ⟨v,x⟩:=X;clear f a b;by_cases d:g=0
 .subst d;rw [if_pos rfl];go_enter Tryz.func68,Tryz.ntmps68;go_wp2;go_ret2;exact ⟨rfl,jD _⟩
 .have s:(g==0)=false:=by rw [jI];exact d
  rw [if_neg d];go_enter Tryz.func68,Tryz.ntmps68;go_wp2_with fail;refine i.mono ?_;rintro e y ⟨rfl,t⟩;go_wp2;go_ret2;exact ⟨rfl,t⟩
theorem AH.take {B:List BK} (h:AH B) (k:Nat):AH (B.take k):=
 ⟨⟨jX (List.length_take_le' _ _) h.1.1,fun b a=>h.1.2 b (List.mem_of_mem_take a)⟩,List.Pairwise.sublist (List.take_sublist _ _) h.2⟩
theorem QB {B:List BK} {k:Nat} (m:k<B.length) (q:B.length<=8) (h:AH (B.take k)) (f:1<=B[k].1.size/\B[k].1.size<=8) (g:0<=B[k].2/\B[k].2<=6) (n:∀j,(r:j+1=k)->AO (B[j]'jo).1 B[k].1=true):AH (B.take (k+1)):=by
 rw [jQ m];refine ⟨⟨jx,fun b c=>?_⟩,?_⟩
 .rcases jT.1 c with c|c
  .exact h.1.2 b c
  .obtain rfl:=jP.1 c;exact ⟨f.1,f.2,g.1,g.2⟩
 .refine List.pairwise_append.2 ⟨h.2,List.pairwise_singleton _ _,fun a o b c=>?_⟩;obtain rfl:=jP.1 c;obtain ⟨i,p,rfl⟩:=List.getElem_of_mem o;rw [jk] at p;obtain ⟨j,rfl⟩:∃j,k=j+1:=⟨k - 1,jo⟩;have l:=n j rfl;by_cases d:i=j
  .subst d;simpa using l
  .have:=List.pairwise_iff_getElem.1 h.2 i j (by rw [jk];omega) (by rw [jk];omega) jo;simp only [List.getElem_take] at this |-;exact Pm this l
theorem Rv {B:List BK} {j:Nat} (a:j+1<B.length) (h:AH B):AO B[j].1 B[j+1].1=true:=List.pairwise_iff_getElem.1 h.2 j (j+1) jo a jo
def Hv (P:Prop) (w:jj) (e:Ending) (w':jj):Prop:=∃x,e= .returned (.bool x)/\Aa w w'/\(x=true↔P)
theorem NT (B:List BK) (v:ju) (w:jj) (M:Am w v B) (X:B.length<=1000):
  Calls Tryz.prog 180 #[v] w (Hv (AH B) w):=by
 obtain ⟨Y,cap,rfl,q⟩:=M.open;by_cases H:8<B.length
 .have m:Hid (¬AH B):=fun h=>by have:=h.1.1;omega
  clear q;go_enter Tryz.func180,Tryz.ntmps180;go_wp2;go_ret;exact ⟨false,rfl,jq,⟨fun h=>(by cases h),fun h=>absurd h m.out⟩⟩
 .replace H:B.length<=8:=jo
  go_enter Tryz.func180,Tryz.ntmps180;go_wp2;go_loopg [10] B.length (fun r n wr=>Aa w wr/\∃k:Nat,r=B.length - k/\k<=B.length/\n= .int .i64 k/\AH (B.take k))
  case atStart=>exact ⟨jD _,0,jo,jo,rfl,by simpa using AH.nil⟩
  case round=>
   obtain ⟨C,k,Z,hk,rfl,I⟩:=hrel;have u:=jp I;clear I;by_cases p:k<B.length
   .obtain ⟨g,rfl,z,A⟩:=q k p;have N:=C.cell z;have O:=C.cell A;have d:=fun D=>LF B[k].1 D
    have f:=fun D=>Mn B[k].2 D
    have c:=jp (fun P Q R=>QB p H u.out P Q R)
    have o:Hid (AH B->(1<=B[k].1.size/\B[k].1.size<=8)/\(0<=B[k].2/\B[k].2<=6)):=fun h=>by
     have:=h.1.2 _ (jJ p);exact ⟨⟨this.1,this.2.1⟩,this.2.2⟩
    by_cases b:1<=B[k].1.size/\B[k].1.size<=8
    rotate_left
    .have m:Hid (¬AH B):=fun h=>b (o.out h).1
     simp only [b,decide_false] at d;clear q z A f c o b u;generalize B[k].1=s at *;generalize B[k].2=E at *;go_wp2_with fail;refine (d _).mono ?_;rintro e y ⟨rfl,rfl⟩;go_wp2;go_ret;exact ⟨false,rfl,jq,⟨fun h=>(by cases h),fun h=>absurd h m.out⟩⟩
    simp only [b,and_self,decide_true] at d;by_cases a:0<=B[k].2/\B[k].2<=6
    rotate_left
    .have m:Hid (¬AH B):=fun h=>a (o.out h).2
     simp only [a,decide_false] at f;clear q z A c o b u a;generalize B[k].1=s at *;generalize B[k].2=E at *;go_wp2_with fail;refine (d _).mono ?_;rintro e y ⟨rfl,rfl⟩;go_wp2_with fail;refine (f _).mono ?_;rintro e y ⟨rfl,rfl⟩;go_wp2;go_ret;exact ⟨false,rfl,jq,⟨fun h=>(by cases h),fun h=>absurd h m.out⟩⟩
    simp only [a,and_self,decide_true] at f;replace c:=jp (c.out b a);clear o b a u;cases k with
    |zero=>
     have l:Hid (AH (B.take (0+1))):=c.out (fun j hj=>by omega);clear q z A c;generalize B[0].1=s at *;generalize B[0].2=E at *;go_wp2_with fail;refine (d _).mono ?_;rintro e y ⟨rfl,rfl⟩;go_wp2_with fail;refine (f _).mono ?_;rintro e y ⟨rfl,rfl⟩;go_wp2_with fail;go_quiet (fail);go_wp2;go_roundg (B.length - (0+1))
     case measure=>omega
     case rel=>exact ⟨jq,0+1,rfl,jo,by go_num,l.out⟩
    |succ j=>
     obtain ⟨g',F,J,S⟩:=q j jo;cases F;have G:=C.cell J
     have l : Hid (AO B[j].1 B[j + 1].1 = true -> AH (B.take (j + 1 + 1))) := fun h => c.out (fun i hi => by
       obtain rfl : i = j := by omega
       exact h)
     have T:IntKind.i64.wrap (j:Int)=(j:Int):=by rw [IntKind.wrap_i64];omega
     have U:j<B.length:=jo
     have K:g<wr.heap.size:=jF G;have L:g≠wr.heap.size:=jo
     have t:Hid (AH B->AO B[j].1 B[j+1].1=true):=fun h=>Rv p h
     unfold AO at l t;obtain ⟨x,hx⟩:∃x,Op.bytesLess B[j].1.toList B[j+1].1.toList=x:=⟨_,rfl⟩;rw [hx] at l t;clear q z A c J S;generalize B[j+1].1=s at *;generalize B[j+1].2=E at *;generalize B[j].1=V at *;go_wp2_with fail;refine (d _).mono ?_;rintro e y ⟨rfl,rfl⟩;go_wp2_with fail;refine (f _).mono ?_;rintro e y ⟨rfl,rfl⟩;go_wp2_with fail;cases x
     .go_quiet (fail);go_wp2;go_ret;exact ⟨false,rfl,jq,⟨fun h=>(by cases h),fun h=>absurd (t.out h) js⟩⟩
     .go_quiet (fail);go_wp2;go_roundg (B.length - (j+1+1))
      case measure=>omega
      case rel=>exact ⟨jq,j+1+1,rfl,jo,by go_num,by first|exact l.out rfl|exact l.out trivial⟩
   .have W:Hid (AH B):=by have:=u.out;rw [jR jo] at this;exact this
    clear q u;go_wp2;go_ret;exact ⟨true,rfl,jq,⟨fun _=>W.out,fun _=>rfl⟩⟩
theorem MM (w:jj) (o:Obj):(w.alloc o).heap[w.heap.size]?=some o:=by unfold World.alloc;exact Array.getElem?_push_size
def Ae (b:Nat) (a:TypeId) (c:Array Value) (w:jj):Prop:=w.heap[b]?=some (.cells c a (0,0))
theorem Ae.new (w:jj) (a:TypeId) (b:Array Value):Ae w.heap.size a b (w.alloc (.cells b a)):=MM w _
theorem Ae.lt {b:Nat} {a:TypeId} {c:Array Value} {w:jj} (h:Ae b a c w):b<w.heap.size:=by
 rcases Nat.lt_or_ge b w.heap.size with k|k
 .exact k
 .rw [Ae,Array.getElem?_eq_none k] at h;cases h
theorem Ae.kept {b:Nat} {a:TypeId} {c:Array Value} {w w':jj} (h:Ae b a c w) (d:w'.heap[b]?=w.heap[b]?):Ae b a c w':=d.trans h
theorem Ae.bel {b:Nat} {a:TypeId} {c:Array Value} {w w':jj} (h:Ae b a c w) (k:Aa w w'):Ae b a c w':=h.kept (k.block b h.lt)
theorem Ae.but {b:Nat} {a:TypeId} {c:Array Value} {w w':jj} {M:jr} (h:Ae b a c w) (k:Ab M w w') (d:b∉M):Ae b a c w':=h.kept (k.block b h.lt d)
theorem Ae.cell {b:Nat} {c:TypeId} {a:Array Value} {w:jj} (h:Ae b c a w) (j:Nat) {u:ju} (d:a[j]?=some u):w.cell? ⟨b,j,none⟩=some u:=by
 unfold Ae at h;simp [World.cell?,h,d]
theorem Ae.free {b:Nat} {a:TypeId} {c:Array Value} {w:jj} (h:Ae b a c w) (j:Nat):w.frozen? ⟨b,j,none⟩=false:=by
 unfold Ae at h;simp [World.frozen?,h]
theorem Ae.set {b:Nat} {a:TypeId} {c:Array Value} {w:jj} (h:Ae b a c w) (j:Nat) (u:ju) {cs':Array Value} (d:c.setIfInBounds j u=cs'):Ae b a cs' (w.setCell ⟨b,j,none⟩ u):=by
 unfold Ae at h |-;subst d;have f:b<w.heap.size:=Ae.lt h;simp only [World.setCell,Array.getElem?_modify,h];simp
theorem Ae.setO {b:Nat} {c:TypeId} {d:Array Value} {w:jj} (h:Ae b c d w) {a:Addr} (f:a.block≠b) (u:ju):Ae b c d (w.setCell a u):=by
 refine h.kept ?_;simp only [World.setCell,Array.getElem?_modify,if_neg f]
theorem Ae.alloc {b:Nat} {a:TypeId} {c:Array Value} {w:jj} (h:Ae b a c w) (o:Obj):Ae b a c (w.alloc o):=h.bel ((jD w).step_alloc o)
variable {K:Nat->Option Obj}
theorem Bb.box {d:jj} {p:Nat} {L:jz} {w:jj} (h:Bb K d p L w) (o:Obj) (g:∀a,o≠ .cells a 5 (0,0)):∃b,b w.heap.size=some o/\(∀k o',K k=some o'->b k=some o')/\Bb b d p L (w.alloc o):=by
 have i:=h.lt;refine ⟨fun j=>if j=w.heap.size then some o else K j,js,fun k o' f=>?_,(h.later ((jD w).step_alloc o)).keep (MM w o) jo g⟩
 have c:k≠w.heap.size:=fun e=>by
  have:=h.block f;rw [e,Array.getElem?_eq_none (jH _)] at this;cases this
 simp [c,f]
theorem Bb.cell {c:jj} {p:Nat} {L:jz} {w b:jj} {o:Obj} (h:Bb K c p L b) (d:K w.heap.size=some o) {j:Nat} {u:ju} (f:(w.alloc o).cell? ⟨w.heap.size,j,none⟩=some u):b.cell? ⟨w.heap.size,j,none⟩=some u:=
 (World.cell?_of_block (a:=⟨w.heap.size,j,none⟩) ((h.block d).trans (MM w o).symm)).trans f
def Gk (b:BK):List Bool:=Ax b.1.size (8 * 1)++Az b.1.data.toList++Ax b.2.toNat (8 * 1)
def Gd (B:List BK):List Bool:=Ax B.length (8 * 1)++B.flatMap Gk
theorem SD {b:BK} (h:b.1.size<=8):(Gk b).length<=80:=by
 have:b.1.data.toList.length=b.1.size:=by rw [Array.length_toList];rfl
 simp [Gk,Bd,Bk];have a:b.1.data.size=b.1.size:=rfl;omega
theorem Pk {B:List BK} (h:∀b∈B,b.1.size<=8):(B.flatMap Gk).length<=80 * B.length:=by
 induction B with
 |nil=>simp
 |cons b B ih=>
  have a:=SD (h b js);have c:=ih (fun x hx=>h x (by simp [hx]));simp only [List.flatMap_cons,jO,List.length_cons];omega
theorem KI {B:List BK} (h:AL B):(Gd B).length<=648:=by
 have:=Pk (fun b a=>(h.2 b a).2.1);have c:=h.1;simp only [Gd,jO,Bd];omega
theorem Qc (i:jj) (p:Nat) (L:jz) (B:List BK) (v:ju) (w:jj) (h:Bb K i p L w) (J:Am i v B) (U:AL B) (hL:L.length<=1073741824):
  Calls Tryz.prog 185 #[.pointer (some ⟨p,0,none⟩),v] w (Ha K i p (L++Gd B)):=by
 obtain ⟨h8,c⟩:=U;obtain ⟨ao,cap,rfl,G⟩:=J.open;have M:=jp (Cb i p L B.length 1 w h jo jo jo);have l:=jp (fun k=>jX (Pk (B:=B.take k) (fun b V=>(c b (List.mem_of_mem_take V)).2.1)) (by have:=List.length_take_le' k B;omega:80 * (B.take k).length<=640));clear h J;go_enter Tryz.func185,Tryz.ntmps185;go_wp2_with fail;refine M.out.mono ?_;rintro e w1 ⟨rfl,y⟩;have o:=jp y;clear y M;go_wp2;go_loopg [12] B.length (fun r n wr=>∃k:Nat,r=B.length - k/\k<=B.length/\n= .int .i64 k/\Bb K i p ((L++Ax B.length (8 * 1))++(B.take k).flatMap Gk) wr)
 case atStart=>exact ⟨0,jo,jo,rfl,by simpa using o.out⟩
 case round=>
  obtain ⟨k,hr,hk,rfl,N⟩:=hrel;have z:=jp N;clear N;by_cases q:k<B.length
  .obtain ⟨g,rfl,O,P⟩:=G k q;have d:=z.out.1;have W:=d.cell O;have X:=d.cell P;obtain ⟨Y,Z,aa,ab⟩:=c _ (jJ q);obtain ⟨x,f⟩:∃x,x=((L++Ax B.length (8 * 1))++(B.take k).flatMap Gk):=⟨_,rfl⟩
   have HS:Hid ((L++Ax B.length (8 * 1))++(B.take (k+1)).flatMap Gk=((x++Ax B[k].1.size (8 * 1))++Az B[k].1.data.toList)++Ax B[k].2.toNat (8 * 1)):=by
    show _=_;rw [f,jQ q,List.flatMap_append];simp [Gk]
   have ac:x.length<=1073742720:=by
    have:=l.out k;rw [f];simp only [jO,Bd];omega
   rw [<-f] at z;clear f;generalize B[k].1=a at *;generalize B[k].2=Q at *;obtain ⟨m,rfl⟩:∃m:Nat,Q=(m:Int):=⟨Q.toNat,jo⟩;obtain ⟨K1,A,C,D⟩:=z.out.box (.cells #[.string a,.int .i64 (m:Int)] 57) (fun ad e=>by injection e with _ e;revert e;decide);have R:=jp (Cb i p x a.size 1 _ D jo jo jo);have E:=jp A;have H:=jp C;clear G O P d l o c D A C z;go_wp2_with fail;refine R.out.mono ?_;rintro e w2 ⟨rfl,s⟩;have S:=jp (Gh i p (x++Ax a.size (8 * 1)) a w2 s (by simp only [jO,Bd];omega));have a0:=s.cell E.out (j:=0) (u:= .string a) js;clear s R;go_wp2_with fail;refine S.out.mono ?_;rintro e w3 ⟨rfl,t⟩;have T:=jp (Cb i p _ m 1 w3 t (by simp only [jO,Bd,Bk,Array.length_toList];have:a.data.size=a.size:=rfl;omega) jo jo);have b1:=t.cell E.out (j:=1) (u:= .int .i64 (m:Int)) js;clear t S a0;go_wp2_with fail;refine T.out.mono ?_;rintro e w4 ⟨rfl,F⟩;have I:=jp (F.drop H.out);clear F T b1;go_wp2;go_roundg (B.length - (k+1))
   case measure=>omega
   case rel=>
    refine ⟨k+1,rfl,jo,by go_num,?_⟩;rw [HS.out];exact I.out
  .have HE:Hid ((L++Ax B.length (8 * 1))++(B.take k).flatMap Gk=L++Gd B):=by
    show _=_;rw [jR jo,Gd,List.append_assoc]
   clear G l o
   go_wp2
   go_end0
   refine ⟨rfl,?_⟩
   rw [<-HE.out]
   exact z.out
variable {K:Nat->Option Obj}
def Fq (a:Int):Bool:=a==2||a==4
theorem Lu (a:Int) (w:jj):Calls Tryz.prog 181 #[.int .i64 a] w (GX w (Fq a)):=by
 unfold Fq;go_enter Tryz.func181,Tryz.ntmps181;cases b:(a==2)
 .go_wp2;go_ret;exact ⟨js,jq⟩
 .go_wp2;go_ret;exact ⟨js,jq⟩
def G3 (y:Nat):Nat:=if y=0 then 0 else if y=1 then 1 else 2
def Gf (n:Nat):Nat:=1+G3 ((n - 1) / 2)
theorem TS (n:Nat) (w:jj) (s:n<=8):Calls Tryz.prog 182 #[.int .i64 (n:Int)] w (D9 w (Gf n)):=by
 have k:((n:Int) - 1).tdiv 2=(((n - 1) / 2:Nat):Int):=by
  rcases n with _|n
  .decide
  .rw [show ((n+1:Nat):Int) - 1=(n:Int) by omega,show n+1 - 1=n by omega];rfl
 obtain ⟨c,b⟩:∃y,y=(n - 1) / 2:=⟨_,rfl⟩;have f:c<=3:=jo
 have l:Hid (Gf n=1+G3 c):=by show _=_;rw [Gf,b]
 have g:Hid (Gf n<=3):=by show _<=_;rw [l.out];unfold G3;split <;>(try split)<;>omega
 rw [<-b] at k;clear b;go_enter Tryz.func182,Tryz.ntmps182;go_wp2;go_loopg [3,4] c (fun r x d wr=>w=wr/\∃a y:Nat,r=y/\y<=3/\a<=10/\x= .int .i64 (a:Int)/\d= .int .i64 (y:Int)/\a+G3 y=Gf n)
 case atStart=>exact ⟨rfl,1,c,rfl,f,jo,rfl,by go_num,l.out.symm⟩
 case round=>
  obtain ⟨rfl,a,y,t,u,v,rfl,rfl,m⟩:=hrel;have i:=jp m;clear m k;by_cases p:y=0
  .subst p;go_wp2;go_ret;exact ⟨by have:=i.out;simp [G3] at this;simp [this],jq⟩
  .have q:((y:Int)).tdiv 2=((y / 2:Nat):Int):=rfl;have o:(0:Int)<(y:Int):=jo
   go_wp2;go_roundg (y / 2)
   case measure=>omega
   case rel => exact ⟨rfl, a + 1, y / 2, rfl, jo, by have := i.out; have := g.out; omega, by go_num, by go_num, by
     rw [<- i.out]
     unfold G3
     have : y = 1 \/ y = 2 \/ y = 3 := by omega
     rcases this with h | h | h <;> subst h <;> simp⟩
end Go.Proofs.YtpapdkhjdelfcaaGreat
