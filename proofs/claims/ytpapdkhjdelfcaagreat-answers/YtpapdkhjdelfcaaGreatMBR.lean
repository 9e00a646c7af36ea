import Derived.Test.YtpapdkhjdelfcaaGreatMBP
import Derived.Deep.QuietTactic
import Derived.BigQuiet
import Derived.RegionTactic
import Derived.Deep.RegionHeld3
import Derived.Laws.IdiomStrings
namespace Go.Proofs.YtpapdkhjdelfcaaGreat
open Go.RowKit
set_option maxRecDepth 100000
set_option maxHeartbeats 4000000
def AB (k a b c:Int) (S:jt):Value:= .agg #[.int .i64 k,.int .i64 a,.int .i64 b,.int .i64 c,.string S]
def Gy (a:Aw) (p s:Nat) (e:Ending) (w':jj):Prop:=e= .returned (.bool true)/\∃x,Ao a s x w'/\x.p=p
theorem UF (g:Aw) (s:Nat) (x:WG) (A B C:Int) (S:jt) (w:jj) (h:Ao g s x w) (l:Aj A) (m:Aj B):
  Calls Tryz.prog 31 #[.pointer (some ⟨x.p,0,none⟩),AB 1 A B C S] w (Gy g x.p (s+1)):=by
 have a:=fun f=>FJ A 5 f l jo jo
 obtain ⟨n,c⟩:=FQ A 5 jo;have d:=fun f (b:Aa w f)=>Ub g s x (DA A 5) B f (h.later b) n c m
 generalize DA A 5=k at *;generalize x.p=p at *;clear h l m n c;unfold AB;go_enter Tryz.func31,Tryz.ntmps31;go_wp2_with fail;refine (a _).mono ?_;rintro e r ⟨rfl,rfl⟩;go_wp2_with fail;refine (d _ jq).mono ?_;rintro e t ⟨rfl,o,c,i⟩;have q:=jp (c.up (show s<=s+1 by omega));clear c a d;go_wp2;go_ret;exact ⟨rfl,o,q.out,i⟩
theorem YZ (d:Aw) (s:Nat) (x:WG) (A B C:Int) (S:jt) (w:jj) (h:Ao d s x w) (g:S.size<=maxLen):
  Calls Tryz.prog 31 #[.pointer (some ⟨x.p,0,none⟩),AB 2 A B C S] w (Gy d x.p (s+1)):=by
 have a : ∀ f, Aa w f -> Hid (Ao d (s + 1) { x with c := { x.c with key := S } } (f.setCell ⟨x.p, 4, none⟩ (.string S))) := fun f b => ((h.later b).up (show s <= s + 1 by omega)).cfg 4 _ { x.c with key := S } rfl (by
   obtain ⟨l, m, n, i, o, r⟩ := h.2.2.2.2.2.1
   exact ⟨l, m, n, i, o, g⟩)
 have q:=h.1.1 4 _ rfl;have i:=h.1.2 4 (by simp [WG.cells]);have k:=jF q;clear h g;unfold AB;go_enter Tryz.func31,Tryz.ntmps31;go_wp2;go_ret;exact ⟨rfl,{x with c:={x.c with key:=S}},(a w (jD w)).out.later jq,rfl⟩
theorem QV (c:Aw) (s:Nat) (x:WG) (A B C:Int) (S:jt) (w:jj) (h:Ao c s x w) (k:s<=150000) (f:S.size<=1099511627776):
  Calls Tryz.prog 31 #[.pointer (some ⟨x.p,0,none⟩),AB 18 A B C S] w (Gy c x.p (s+1)):=by
 have a:=fun g (b:Aa w g)=>J2 c s x S g (h.later b) k f
 generalize x.p=p at *;clear h f;unfold AB;go_enter Tryz.func31,Tryz.ntmps31;go_wp2_with fail;refine (a _ jq).mono ?_;rintro e n ⟨rfl,l,i,d⟩;have m:=jp i;clear i a;go_wp2;go_ret;exact ⟨rfl,l,m.out,d⟩
theorem WW (i:Aw) (s:Nat) (x:WG) (A B C:Int) (S:jt) (w:jj) (h:Ao i s x w) (l:s<=150000) (n:Aj A) (o:Aj B):
  Calls Tryz.prog 31 #[.pointer (some ⟨x.p,0,none⟩),AB 20 A B C S] w (Gy i x.p (s+1)):=by
 have f:=fun a (b:Aa w a)=>FI i s x A a (h.later b) l n
 have g:=fun a (t:jt) (b:Aa w a) (z:t.size<=1099511627776)=>J2 i s x t a (h.later b) l z
 generalize x.p=p at *;clear h n;unfold AB;go_enter Tryz.func31,Tryz.ntmps31;go_wp2_with fail;refine (f _ jq).mono ?_;rintro e q ⟨t,rfl,c,I⟩;have D:Aa w q:=(Aa.step_alloc (jD w) _).trans c;have d:=fun a=>FJ B (t.size+1) a o jo jo
 obtain ⟨r,u⟩:=FQ B (t.size+1) jo;obtain ⟨m,v⟩:=jM r;rw [v] at d u;have E:m<=t.size:=jo
 have J:q.cell? ⟨w.heap.size,2,none⟩=some (.int .i64 B):=c.cell js;clear f c r u v o;go_wp2_with fail;refine (d _).mono ?_;rintro e F ⟨rfl,rfl⟩;clear d;go_wp2_with fail;refine (g _ _ jq ?_).mono ?_
 .simp only [ByteArray.size_extract];omega
 rintro e F ⟨rfl,G,y,k⟩;have H:=jp y;clear y g;go_wp2;go_ret;exact ⟨rfl,G,H.out,k⟩
theorem U4 (n:Aw) (s:Nat) (x:WG) (A B C:Int) (S:jt) (w:jj) (h:Ao n s x w) (v:s<=150000) (y:Aj A):
  Calls Tryz.prog 31 #[.pointer (some ⟨x.p,0,none⟩),AB 21 A B C S] w (Gy n x.p (s+1)):=by
 have d:=fun f (b:Aa w f)=>FI n s x A f (h.later b) v y
 have a:=fun f (t:jt) (b:Aa w f) (D:t.size<=1099511627776)=>J2 n s x t f (h.later b) v D
 generalize x.p=p at *;clear h y;unfold AB;go_enter Tryz.func31,Tryz.ntmps31;go_wp2_with fail;refine (d _ jq).mono ?_;rintro e E ⟨t,rfl,g,F⟩;have i:Aa w E:=(Aa.step_alloc (jD w) _).trans g;clear d g;by_cases H:4<t.size
 .go_wp2_with fail;refine (D3 _ _ ?_).mono ?_
  .simp only [ByteArray.size_extract];omega
  rintro e I ⟨u,rfl,k,z⟩;have l:=i.trans k
  have o:u.size<=1099511627776:=by
   simp only [ByteArray.size_extract] at z;omega
  clear z k;go_wp2_with fail;refine (a _ _ l o).mono ?_;rintro e G ⟨rfl,q,m,c⟩;have r:=jp m;clear m a;go_wp2;go_ret;exact ⟨rfl,q,r.out,c⟩
 .go_wp2_with fail;refine (a _ _ i F).mono ?_;rintro e G ⟨rfl,q,m,c⟩;have r:=jp m;clear m a;go_wp2;go_ret;exact ⟨rfl,q,r.out,c⟩
def Xr (w:jj) (e:Ending) (w':jj):Prop:=e= .returned (.bool false)/\Aa w w'
theorem Gu (p:Nat) (k A B C:Int) (S:jt) (w:jj) (l:k≠1/\k≠2/\k≠18/\k≠19/\k≠20/\k≠21/\k≠25):
  Calls Tryz.prog 31 #[.pointer (some ⟨p,0,none⟩),AB k A B C S] w (Xr w):=by
 obtain ⟨a,b,c,d,f,g,i⟩:=l;have m:(k==1)=false:=by rw [jI];exact a
 have n:(k==2)=false:=by rw [jI];exact b
 have o:(k==18)=false:=by rw [jI];exact c
 have q:(k==19)=false:=by rw [jI];exact d
 have r:(k==20)=false:=by rw [jI];exact f
 have s:(k==21)=false:=by rw [jI];exact g
 have t:(k==25)=false:=by rw [jI];exact i
 clear a b c d f g i;unfold AB;go_enter Tryz.func31,Tryz.ntmps31;go_wp2;go_ret;exact ⟨rfl,jq⟩
theorem Fo {w:jj} {base n:Nat} {e:TypeId} {v:ju} {a:List Value} (h:w.ownsRow base e 1 v n a) (b:0<n):∃g cap,v= .slice (some ⟨g,0,none⟩) n cap/\base<=g/\g<w.heap.size/\∀j,j<n->w.cell? ⟨g,j,none⟩=a[j]?:=by
 obtain ⟨g,cap,rfl,c,d⟩:=World.ownsRow.form h b;exact ⟨g,cap,rfl,c,d,fun j f=>World.ownsRow.cellAt h j jo⟩
theorem Aa.both {a b:jj} (h:Aa a b) (x:Addr) (u:ju):Aa (a.setCell x u) (b.setCell x u):=by
 have c:(a.setCell x u).heap.size<=(b.setCell x u).heap.size:=by simpa [World.setCell] using h.size
 have d:∀k,k<(a.setCell x u).heap.size->(b.setCell x u).heap[k]?=(a.setCell x u).heap[k]?:=fun k g=>by
  have f:k<a.heap.size:=by simpa [World.setCell] using g
  simp only [World.setCell,Array.getElem?_modify];rw [h.block k f]
 have i:Below (a.setCell x u).heap.size (a.setCell x u) (b.setCell x u):={os:=h.below.os,tape:=h.below.tape,output:=h.below.output,size:=c,block:=d};exact i
def P7 (p:Nat) (n:Nat) (c f d g m a b L i:Nat) (w:jj):Prop:=w.cell? ⟨p,8,none⟩=some (.slice (some ⟨c,0,none⟩) n f)/\w.cell? ⟨p,9,none⟩=some (.slice (some ⟨d,0,none⟩) n g)/\w.cell? ⟨c,m,none⟩=some (.slice (some ⟨a,0,none⟩) L L)/\w.cell? ⟨d,m,none⟩=some (.slice (some ⟨b,0,none⟩) L L)/\
 (∃t:jt,w.cell? ⟨a,i,none⟩=some (.string t))/\(∃t:jt,w.cell? ⟨b,i,none⟩=some (.string t))/\w.frozen? ⟨a,i,none⟩=false/\w.frozen? ⟨b,i,none⟩=false/\a≠p/\a≠c/\a≠d/\a≠b
def Yg (w:jj) (a b i:Nat) (S:jt) (e:Ending) (w':jj):Prop:=e= .returned (.bool true)/\Aa ((w.setCell ⟨a,i,none⟩ (.string S)).setCell ⟨b,i,none⟩ (.string S)) w'
theorem TT (p n s v gb cb m c x L i:Nat) (A B C:Int) (S:jt) (w:jj) (h:P7 p n s v gb cb m c x L i w) (M:Aj A) (N:Aj B) (hn:n<=200000) (hL:L<=65536) (aa:0<n) (ab:0<L) (O:DA A n=m) (P:DA B L=i) (ac:m<n) (ad:i<L):
  Calls Tryz.prog 31 #[.pointer (some ⟨p,0,none⟩),AB 25 A B C S] w (Yg w c x i S):=by
 obtain ⟨y,Q,z,D,⟨t1,t⟩,⟨t2,u⟩,R,T,n1,n2,n3,U⟩:=h;have d:=fun E=>FJ A n E M jo jo
 have f:=fun E=>FJ B L E N jo jo
 rw [O] at d;rw [P] at f;have V:=jF y;have W:=jF z;have X:=jF D;have Y:=jF t;have Z:=jF u;simp only at V W X Y Z;clear O P M N;unfold AB;go_enter Tryz.func31,Tryz.ntmps31;go_wp2_with fail;have F:(w.alloc (.cells #[.int .i64 25,.int .i64 A,.int .i64 B,.int .i64 C,.string S] 28)).cell? ⟨w.heap.size,1,none⟩=some (.int .i64 A):=js
 have G:(w.alloc (.cells #[.int .i64 25,.int .i64 A,.int .i64 B,.int .i64 C,.string S] 28)).cell? ⟨w.heap.size,2,none⟩=some (.int .i64 B):=js
 have H:(w.alloc (.cells #[.int .i64 25,.int .i64 A,.int .i64 B,.int .i64 C,.string S] 28)).cell? ⟨w.heap.size,4,none⟩=some (.string S):=js
 have b:Aa w (w.alloc (.cells #[.int .i64 25,.int .i64 A,.int .i64 B,.int .i64 C,.string S] 28)):=Aa.step_alloc (jD w) _;have I:=b.cell y;have k9:=b.cell Q;have l:=b.cell z;have o:=b.cell D;have J:=b.cell t;have g:=b.cell u;have K:=b.frozen t R;have q:=b.frozen u T;have r:c≠w.heap.size:=jo
 have HB:=jp b;generalize (w.alloc (.cells #[.int .i64 25,.int .i64 A,.int .i64 B,.int .i64 C,.string S] 28))=wo at *;generalize w.heap.size=po at F G H r |-;clear y Q z D t u R T b V W X Y Z;go_region_held3 (fun w'=>Aa wo w'/\w'.cell? ⟨po,1,none⟩=some (.int .i64 A)/\w'.cell? ⟨p,8,none⟩=some (.slice (some ⟨s,0,none⟩) n v)) ((exact ⟨jq,Aa.cell (a:=wo) jq F,Aa.cell (a:=wo) jq I⟩)) ((go_at_call 34;refine (d _).mono ?_;rintro e w2 ⟨rfl,rfl⟩));go_wp2_with fail;go_region_held3 (fun w'=>Aa wo w'/\w'.cell? ⟨po,2,none⟩=some (.int .i64 B)/\w'.cell? ⟨p,8,none⟩=some (.slice (some ⟨s,0,none⟩) n v)/\w'.cell? ⟨s,m,none⟩=some (.slice (some ⟨c,0,none⟩) L L)) ((exact ⟨jq,Aa.cell (a:=wo) jq G,Aa.cell (a:=wo) jq I,Aa.cell (a:=wo) jq l⟩)) ((go_at_call 34;refine (f _).mono ?_;rintro e w2 ⟨rfl,rfl⟩));go_wp2_with fail;go_region;have k:Ab [c] wo (wo.setCell ⟨c,i,none⟩ (.string S)).drew.drew.drew:=(((Ab.refl _ _).set js _).drew).drew.drew;have q9:=k.cell k9 (by simpa using Ne.symm n1);have qd:=k.cell o (by simpa using Ne.symm n3);have qo:=k.cell H (by simpa using Ne.symm r);have qe:=k.cell g (by simpa using Ne.symm U);have qf:=k.frozen g (by simpa using Ne.symm U) q;have HW:Hid (Aa (w.setCell ⟨c,i,none⟩ (.string S)) (wo.setCell ⟨c,i,none⟩ (.string S)).drew.drew.drew):=(((HB.out.both _ _).step_drew).step_drew).step_drew;clear k I k9 l o J g K q F G H HB d f;generalize (wo.setCell ⟨c,i,none⟩ (.string S)).drew.drew.drew=w3 at *;go_wp2_with fail;go_region;have HF:=HW.out.both ⟨x,i,none⟩ (.string S);clear HW q9 qd qo qe qf;go_wp2;go_ret;exact ⟨rfl,jq⟩
def Pc (w:jj) (e:Ending) (w':jj):Prop:=e= .returned (.bool true)/\Aa w w'
theorem Ud (p:Nat) (v:ju) (cap:Nat) (a:Option Addr) (A B C:Int) (S:jt) (w:jj) (b:v= .slice a 0 cap) (c:w.cell? ⟨p,8,none⟩=some v):Calls Tryz.prog 31 #[.pointer (some ⟨p,0,none⟩),AB 25 A B C S] w (Pc w):=by
 subst b;have d:=jF c;simp only at d;unfold AB;go_enter Tryz.func31,Tryz.ntmps31;go_wp2;go_ret;exact ⟨rfl,jq⟩
theorem Zn (p n c d m k l:Nat) (A B C:Int) (S:jt) (w:jj) (f:w.cell? ⟨p,8,none⟩=some (.slice (some ⟨c,0,none⟩) n d)) (o:w.cell? ⟨c,m,none⟩=some (.slice (some ⟨k,0,none⟩) 0 l)) (g:Aj A) (v:n<=200000) (q:0<n) (i:DA A n=m) (r:m<n):
  Calls Tryz.prog 31 #[.pointer (some ⟨p,0,none⟩),AB 25 A B C S] w (Pc w):=by
 have b:=fun s=>FJ A n s g jo jo
 rw [i] at b;have t:=jF f;have u:=jF o;simp only at t u;clear i g;unfold AB;go_enter Tryz.func31,Tryz.ntmps31;go_wp2_with fail;go_region_held3 (fun w'=>Aa w w'/\w'.cell? ⟨w.heap.size,1,none⟩=some (.int .i64 A)/\w'.cell? ⟨p,8,none⟩=some (.slice (some ⟨c,0,none⟩) n d)) ((exact ⟨jq,js,Aa.cell (a:=w) jq f⟩)) ((go_at_call 34;refine (b _).mono ?_;rintro e x ⟨rfl,rfl⟩));go_wp2;go_ret;exact ⟨rfl,jq⟩
theorem Ws (F:Aw) (s:Nat) (x:WG) (A B C:Int) (S:jt) (w:jj) (h:Ao F s x w) (Y:s<=150000) (G:Aj A) (M:Aj B):
  Calls Tryz.prog 31 #[.pointer (some ⟨x.p,0,none⟩),AB 25 A B C S] w (Gy F x.p (s+1)):=by
 have d:=h.2.2.2.2.2.2.2.2.2.1;have r:=h.2.2.2.2.2.2.2.2.2.2.1;have Z:=h.2.2.2.2.2.2.2.2.2.2.2.1.2.2;by_cases N:x.lss.length=0
 .obtain ⟨O,cap,H⟩:=CP d;rw [N] at H;refine (Ud x.p x.vls cap O A B C S w H (h.1.1 8 _ rfl)).mono ?_;rintro e w' ⟨rfl,b⟩;exact ⟨rfl,x,(h.later b).up jo,rfl⟩
 obtain ⟨o,t,f, -, -,u⟩:=Fo d jo;obtain ⟨v,I,g, -, -,y⟩:=Fo r jo;obtain ⟨P,r2⟩:=FQ A x.lss.length jo;obtain ⟨m,J⟩:=jM P;have a:m<x.lss.length:=jo
 have k:=h.2.2.2.2.2.2.2.2.2.2.2.2.1 _ (jJ a);have q:w.cell? ⟨o,m,none⟩=some (sl (x.lss[m]).g1 (x.lss[m]).T.length (x.lss[m]).T.length):=(u m a).trans (by simp [a]);have Q:w.cell? ⟨v,m,none⟩=some (sl (x.lss[m]).g2 (x.lss[m]).T.length (x.lss[m]).T.length):=(y m a).trans (by simp [a]);have z:=h.1.1 8 _ rfl;have K:=h.1.1 9 _ rfl;rw [f] at z;rw [g] at K;by_cases D:(x.lss[m]).T.length=0
 .unfold sl at q;rw [D] at q;refine (Zn x.p x.lss.length o t m (x.lss[m]).g1 0 A B C S w z q G jo jo J a).mono ?_;rintro e w' ⟨rfl,b⟩;exact ⟨rfl,x,(h.later b).up jo,rfl⟩
 obtain ⟨R,q2⟩:=FQ B (x.lss[m]).T.length jo;obtain ⟨i,U⟩:=jM R;have c:i<(x.lss[m]).T.length:=jo
 have V:=DK h.2.2.1;have W:=WG.count x;have E:∀j,[(x.lss[m]).g1,(x.lss[m]).g2].count j<=(x.lss.flatMap (fun l=>[l.g1,l.g2])).count j:=fun j=>FL (fun l:GA=>[l.g1,l.g2]) j _ _ (jJ a)
 have X:1<=[(x.lss[m]).g1,(x.lss[m]).g2].count (x.lss[m]).g1:=Ak.1 js;have b1:=E (x.lss[m]).g1;have b2:=W (x.lss[m]).g1;have b3:=V (x.lss[m]).g1
 have n:P7 x.p x.lss.length o t v I m (x.lss[m]).g1 (x.lss[m]).g2 (x.lss[m]).T.length i w:=by
  refine ⟨z,K,q,Q,⟨(x.lss[m]).T[i],(World.ownsRow.cellAt k.1 i jo).trans (by simp [c])⟩,⟨(x.lss[m]).T[i],(World.ownsRow.cellAt k.2.1 i jo).trans (by simp [c])⟩,World.ownsRow.frozenAt k.1 i,World.ownsRow.frozenAt k.2.1 i,fun e=>?_,fun e=>?_,fun e=>?_,fun e=>?_⟩
  .have L:1<=[x.p].count (x.lss[m]).g1:=Ak.1 (by simp [e]);omega
  .have L:1<=x.vls.ownBlock.toList.count (x.lss[m]).g1:=Ak.1 (by rw [f,e];simp [Value.ownBlock]);omega
  .have L:1<=x.vlw.ownBlock.toList.count (x.lss[m]).g1:=Ak.1 (by rw [g,e];simp [Value.ownBlock]);omega
  .have:[(x.lss[m]).g1,(x.lss[m]).g2].count (x.lss[m]).g1=2:=by rw [<-e];simp
   omega
 refine (TT x.p x.lss.length o t v I m (x.lss[m]).g1 (x.lss[m]).g2 (x.lss[m]).T.length i A B C S w n G M jo k.2.2 jo jo J U a c).mono ?_;rintro e w' ⟨rfl,b⟩;exact ⟨rfl,_,((h.cell m a i S).later b).up jo,rfl⟩
theorem Vj (w:jj) (t:jt):∃cap b,(convert 9 78 (.string t)).run Tryz.prog w= .ok (.slice (some ⟨w.heap.size,0,none⟩) t.size cap) b/\Aa w b/\w.heap.size<b.heap.size/\(∀j (h:j<t.data.size),b.cell? ⟨w.heap.size,j,none⟩=some (.int .u8 (t.data[j].toNat:Int)))/\∀j,j<t.size->b.frozen? ⟨w.heap.size,j,none⟩=false:=by
 have a:=run_bytes_of_string (P:=Tryz.prog) w 9 78 5 t Tryz.underlying9 Tryz.underlying78 Tryz.underlying5;generalize c:grownCap w t.size 0 5=cap at a
 have d:(w.drew.alloc (.cells (bytesRow t cap) 5 ((bytesRow t cap).size,(bytesRow t cap).size+1))).heap[w.heap.size]?=some (.cells (bytesRow t cap) 5 ((bytesRow t cap).size,(bytesRow t cap).size+1)):=by
  show (w.heap.push _)[w.heap.size]?=_;simp
 have f:t.size<=(bytesRow t cap).size:=by
  unfold bytesRow;rw [Array.size_append,Array.size_map];exact Nat.le_add_right _ _
 refine ⟨cap,_,a,(jB (jD w)).step_alloc _,?_,fun j h=>?_,fun j h=>?_⟩
 .show w.heap.size<(w.heap.push _).size;simp
 .rw [cell_of_row _ w.heap.size j _ _ _ d];exact bytesRow_at t cap j h
 .unfold World.frozen?;simp only [d];simp;omega
theorem Xi (a b:Int):∃v:UInt8,bits BinOp.xor IntKind.u8 a b=(v.toNat:Int):=by
 have h:bits BinOp.xor IntKind.u8 a b=IntKind.u8.wrap ((BitVec.ofInt 8 a ^^^ BitVec.ofInt 8 b).toNat:Int):=rfl;rw [h,IntKind.wrap_u8];generalize ((BitVec.ofInt 8 a ^^^ BitVec.ofInt 8 b).toNat:Int)=x;refine ⟨UInt8.ofNat (x % 256).toNat,?_⟩;have c:=Int.emod_nonneg x (b:=256) ji;have d:=Int.emod_lt_of_pos x (b:=256) ji;simp [UInt8.toNat_ofNat'];omega
theorem Tl (Q:Aw) (s:Nat) (x:WG) (A B C:Int) (S:jt) (w:jj) (h:Ao Q s x w) (Y:s<=150000) (Z:Aj A) (hB:Aj B) (_hC:Aj C):
  Calls Tryz.prog 31 #[.pointer (some ⟨x.p,0,none⟩),AB 19 A B C S] w (Gy Q x.p (s+1)):=by
 have G:=fun q (b:Aa w q)=>FI Q s x A q (h.later b) Y Z
 have d:=fun q (t:jt) (b:Aa w q) (hS:t.size<=1099511627776)=>J2 Q s x t q (h.later b) Y hS
 generalize x.p=p at *;clear h Z;unfold AB;go_enter Tryz.func31,Tryz.ntmps31;go_wp2_with fail;refine (G _ jq).mono ?_;rintro e f ⟨t,rfl,i,ht⟩;have H:Aa w f:=(Aa.step_alloc (jD w) _).trans i;have o2:f.cell? ⟨w.heap.size,2,none⟩=some (.int .i64 B):=i.cell js;have o3:f.cell? ⟨w.heap.size,3,none⟩=some (.int .i64 C):=i.cell js;have aa:w.heap.size<f.heap.size:=jF o2;clear G i;generalize w.heap.size=po at *;obtain ⟨cap,I,R,r,ab,a,c⟩:=Vj f t;have k:=H.trans r;have k2:=r.cell o2;have k3:=r.cell o3;have ac:po≠f.heap.size:=jo
 have l:Hid (∀(u:ju) (o:Nat),Aa w (I.setCell ⟨f.heap.size,o,none⟩ u).drew):=fun u o=>(k.step_set (p:=⟨f.heap.size,o,none⟩) H.size u).step_drew
 generalize f.heap.size=g at *;by_cases h0:t.size=0
 .have z:=run_convert_bytes_back (P:=Tryz.prog) I 78 9 5 ⟨g,0,none⟩ cap [] Tryz.underlying78 Tryz.underlying5 Tryz.underlying9 (fun j hj=>by simp at hj);simp only [List.length_nil] at z;rw [h0] at R;clear a c;go_wp2_with fail;refine (d _ _ k ji).mono ?_;rintro e w3 ⟨rfl,T,J,D⟩;have U:=jp J;clear J d;go_wp2;go_ret;exact ⟨rfl,T,U.out,D⟩
 .have E:=fun q=>FJ B t.size q hB jo jo
  obtain ⟨r1,r2⟩:=FQ B t.size jo;obtain ⟨m,hm⟩:=jM r1;rw [hm] at E r2;have K:m<t.size:=jo
  have L:m<t.data.size:=K;have e1:=a m L;have f1:=c m K;have V:t.data.toList.length=t.size:=by rw [Array.length_toList];rfl
  have n:=jp a;clear a c r1 r2 hm hB;go_wp2_with fail;refine (E _).mono ?_;rintro e w3 ⟨rfl,rfl⟩;clear E;go_wp2_with fail;go_region;obtain ⟨v,hv⟩:=Xi (t.data[m].toNat) (C % 256);rw [hv];have W:(t.data.toList.set m v).length=t.size:=by rw [List.length_set];exact V
  have z := run_convert_bytes_back (P := Tryz.prog) ((I.setCell ⟨g, m, none⟩ (.int .u8 (v.toNat : Int))).drew) 78 9 5 ⟨g, 0, none⟩ cap (t.data.toList.set m v) Tryz.underlying78 Tryz.underlying5 Tryz.underlying9 (fun j hj => by
    have M : (⟨g, 0, none⟩ : Addr).add j = ⟨g, j, none⟩ := by unfold Addr.add; split <;> simp_all
    rw [M]
    have X : j < t.data.size := by
      have : j < t.size := by omega
      exact this
    show (I.setCell ⟨g, m, none⟩ (.int .u8 (v.toNat : Int))).cell? ⟨g, j, none⟩ = _
    by_cases F : m = j
    . subst F
      rw [Bc e1]
      simp
    . rw [Ad (Or.inr F), n.out j X, List.getElem_set_ne F]
      simp)
  rw [W] at z;have N:=l.out (.int .u8 (v.toNat:Int)) m
  have O:(⟨(t.data.toList.set m v).toArray⟩:jt).size<=1099511627776:=by
   show (t.data.toList.set m v).toArray.size<=_;rw [List.size_toArray,W];exact ht
  generalize (⟨(t.data.toList.set m v).toArray⟩:jt)=y at *;generalize (I.setCell ⟨g,m,none⟩ (.int .u8 (v.toNat:Int))).drew=w4 at *;clear l e1 f1 n hv W;go_wp2_with fail;refine (d _ _ N O).mono ?_;rintro e w5 ⟨rfl,T,J,D⟩;have U:=jp J;clear J d;go_wp2;go_ret;exact ⟨rfl,T,U.out,D⟩
end Go.Proofs.YtpapdkhjdelfcaaGreat
