import Derived.Test.YtpapdkhjdelfcaaGreatMBU
import Derived.Deep.QuietTactic
import Derived.BigQuiet
namespace Go.Proofs.YtpapdkhjdelfcaaGreat
open Go.RowKit
set_option maxRecDepth 100000
set_option maxHeartbeats 4000000
theorem Tryz.uC:Tryz.prog.underlying 30=some (.struct (Tryz.prog.fieldsOf 30)):=by kernel_rfl
theorem Tryz.sC:Tryz.prog.stoodInHeld 30=false:=by kernel_rfl
def Ll (c d:Ac):Bool:=!(c.alg==d.alg && (c.slots==d.slots && (c.points==d.points && (c.probes==d.probes && (c.key.toList==d.key.toList && c.formats==d.formats)))))
theorem UQ (c d:Ac) (w:jj):(binOp .neq 30 (.agg #[.int .i64 c.alg,.int .i64 c.slots,.int .i64 c.points,.int .i64 c.probes,.string c.key,.int .i64 c.formats]) (.agg #[.int .i64 d.alg,.int .i64 d.slots,.int .i64 d.points,.int .i64 d.probes,.string d.key,.int .i64 d.formats])).run Tryz.prog w= .ok (.bool (Ll c d)) w:=by
 rw [run_neq_struct,run_equalIn_struct w 9999 _ _ _ Tryz.uC Tryz.sC];unfold Ll;simp [go_sem];by_cases a:c.alg=d.alg <;>by_cases b:c.slots=d.slots <;>by_cases f:c.points=d.points <;>by_cases g:c.probes=d.probes <;>by_cases i:c.key.toList=d.key.toList <;>by_cases k:c.formats=d.formats <;>simp [a,b,f,g,i,k]
theorem CL.from {base base':Nat} {w:jj} {p:Nat} {c:Ac} {a:Int} {B:List BK} {E:List EN} (h:CL base w p c a B E) (b:base'<=base):CL base' w p c a B E:=by
 obtain ⟨f,i,k,l,m,n⟩:=h;exact ⟨f,i,k,jX b l,fun g d=>jX b (m g d),fun g d=>jX b (n g d)⟩
def L6 (base:Nat) (w w':jj):Prop:=∃M,Ab M w w'/\∀j∈M,j<base
theorem CL.kept {base:Nat} {w w':jj} {p:Nat} {c:Ac} {f:Int} {B:List BK} {E:List EN} (h:CL base w p c f B E) (k:L6 base w w'):CL base w' p c f B E:=by
 obtain ⟨M,a,q⟩:=k;have b:∀j,base<=j->j∉M:=fun j G e=>by have:=q j e;omega
 obtain ⟨r,s,⟨⟨t,u,v,x,y,z⟩,A,C,D,F,i⟩,m,n,o⟩:=h;have d:=b p m;exact ⟨r,s,⟨⟨a.cell t d,a.cell u d,a.cell v d,a.cell x d,a.cell y d,a.cell z d⟩,a.cell A d,a.cell C d,a.cell D d,Ap.but F a (fun g l=>b g (n g l)),Ap.but i a (fun g l=>b g (o g l))⟩,m,n,o⟩
def QM (b:Aw) (s p base:Nat) (w:jj) (e:Ending) (w':jj):Prop:=e= .returned (.tuple #[])/\(∃a,Ao b s a w'/\a.p=p)/\L6 base w w'
theorem No (c:Aw) (s:Nat) (x:WG) (S:jt) (w d:jj) (h:Ao c s x d) (b:Aa d w) (r:s<=150000) (n:S.size<=1099511627776):
  Calls Tryz.prog 41 #[.pointer (some ⟨x.p,0,none⟩),.string S] w (QM c (s+1) x.p d.heap.size w):=by
 have l:=h;have h:=h.later b
 have f:x.vh.ownBlock≠some x.p:=fun e=>by
  have t:1<=x.vh.ownBlock.toList.count x.p:=Ak.1 (by simp [e]);have u:=WG.count x x.p;have v:=DK h.2.2.1 x.p;have y:=GS x.p;omega
 refine (Lq c.heap.size x.p x.H.length x.vh (x.H.map Value.string) S w (h.1.1 7 _ rfl) (h.1.2 7 (by simp [WG.cells])) h.2.2.2.2.2.2.2.1 (by have:=h.2.2.2.2.2.2.2.2.2.2.2.1.2.1;omega) h.2.1.size f).mono ?_;rintro e w' ⟨rfl,g,cap,z,m,rfl,a,o⟩;refine ⟨rfl,⟨_,h.put m a o n,rfl⟩,x.p::x.vh.ownBlock.toList,(m.mono (fun k q=>Or.inl (jW _ q))).put (Or.inl js) _,fun j i=>?_⟩
 have:j∈x.blocks:=by
  rcases ja.1 i with rfl|i
  .simp [WG.blocks]
  .exact Ak.2 (by have:=WG.count x j;have:=Ak.1 i;omega)
 exact (l.2.2.2.2.1 j (l.2.2.2.1 j this)).2
theorem Zek (h f c m n:Nat):AK (DL h f c m n)=(({data:=#[81]}:jt)++Zaa [(h:Int),(f:Int),(c:Int),(m:Int),(n:Int)] ⟨#[52,49,52,49,50]⟩ 5).data.toList:=by
 have e:DL h f c m n=Az (({data:=#[81]}:jt)++Zaa [(h:Int),(f:Int),(c:Int),(m:Int),(n:Int)] ⟨#[52,49,52,49,50]⟩ 5).data.toList:=by
  have a:Zaa [(h:Int),(f:Int),(c:Int),(m:Int),(n:Int)] ⟨#[52,49,52,49,50]⟩ 5=((((ByteArray.empty++DF (h:Int) 4)++DF (f:Int) 1)++DF (c:Int) 4)++DF (m:Int) 1)++DF (n:Int) 2:=rfl;have b:(ByteArray.empty).data.toList=[]:=rfl;have d:Az []=[]:=rfl;rw [a];simp only [ByteArray.data_append,Array.toList_append,WH,Zam,b,d];unfold DL;simp only [List.append_assoc,List.nil_append]
 rw [e,ZaP]
theorem ZdH (a b c d e:Int):(Zaa [a,b,c,d,e] ⟨#[52,49,52,49,50]⟩ 5).size=12:=by
 show (((((ByteArray.empty++DF a 4)++DF b 1)++DF c 4)++DF d 1)++DF e 2).size=12;simp only [jY,Zae];rfl
theorem Zcr.tick {c a b:Int} {hx:Option HX} {G:List ByteArray} {d:Bool} {p:AF} (h:Zcr c hx a b G d p):Ai (IS p.g p.fm p.cg p.cf p.T)=Ai (Zad (({data:=#[81]}:jt)++Zaa [Zcs hx,c,a,(if 0<a then b else 0),(ZcH G 0:Int)] ⟨#[52,49,52,49,50]⟩ 5).data.toList):=by
 have e:(if 0<a then b else 0)=(p.cf:Int):=by
  have i:=h.cg;split
  .exact h.cf jo
  .rw [(h.z jo).2];rfl
 have f:Dq p.T=ZcH G 0:=by
  unfold Dq;rw [h.T,ZdM]
 rw [e,h.has.gen,h.sp,h.cg,<-f];unfold IS;rw [Zek];rfl
theorem Zfr {G:List ByteArray} {i:Nat} (h:i<G.length):ZcH (G.drop i) i=if (G[i]).size=0 then i else ZcH (G.drop (i+1)) (i+1):=by
 rw [List.drop_eq_getElem_cons h,ZcH]
theorem Zeb (p:Nat) (a:Int) (B:ju) (hx:Option HX) (c b:Int) (y:ju) (G:List ByteArray) (no:Bool) (w:jj) (h:BX w p a B c b y no) (hh:Do w B hx) (F:Aj (Zcs hx)) (hs:Aj a) (H:Aj c) (Q:Aj b) (A:Di w y G) (I:G.length<=65535):
  Calls Tryz.prog 78 #[.pointer (some ⟨p,0,none⟩)] w (En w (TQ (Ai (Zad (({data:=#[81]}:jt)++Zaa [Zcs hx,a,c,(if 0<c then b else 0),(ZcH G 0:Int)] ⟨#[52,49,52,49,50]⟩ 5).data.toList)))):=by
 have J:=h;have v:=fun C=>Zdn p a B hx c b y no C
 generalize Zcs hx=o at *;obtain ⟨E,d⟩:∃n,n=G.length:=⟨_,rfl⟩;obtain ⟨⟨h0,h1,h2,h3,h4,h5⟩,hf⟩:=h
 obtain ⟨S,cap,rfl,K⟩:∃S cap,y= .slice S E cap/\∀j (L:j<G.length),∃g,S=some ⟨g,0,none⟩/\w.cell? ⟨g,j,none⟩=some (.string G[j]):=by
  rcases A with ⟨rfl,rfl⟩|⟨g,cap,rfl,_,K⟩
  .exact ⟨none,0,by rw [d];rfl,fun j L=>by simp at L⟩
  .exact ⟨_,cap,by rw [d],fun j L=>⟨g,rfl,(K j _ (jG L)).1⟩⟩
 rw [<-d] at I;have v:=v w J hh;have M:=jp d;obtain ⟨R,T⟩:∃R,R=Ai (Zad (({data:=#[81]}:jt)++Zaa [o,a,c,(if 0<c then b else 0),(ZcH G 0:Int)] ⟨#[52,49,52,49,50]⟩ 5).data.toList):=⟨_,rfl⟩;rw [<-T];have HR:=jp T;clear T d J hh A;have f:=fun (s:jt) C (h:s.size<=20000000)=>ZaH s C jo
 go_enter Tryz.func78,Tryz.ntmps78;go_wp2;go_loopg [3,4] E (fun r k i wr=>w=wr/\∃(m:Nat) (j:Nat),m<=65535/\j<=E/\r=j/\k= .int .i64 m/\i= .int .i64 ((j:Int) - 1)/\Hid (m=ZcH (G.drop j) j))
 case atStart=>exact ⟨rfl,E,E,I,jo,rfl,rfl,rfl,by show E=_;rw [M.out,List.drop_length];rfl⟩
 case round=>
  obtain ⟨rfl,m,j,hm,L,hr,rfl,rfl,U⟩:=hrel;by_cases ab:0<j
  .obtain ⟨i,rfl⟩:∃i,j=i+1:=⟨j - 1,jo⟩;have N:i<G.length:=by have:=M.out;omega
   obtain ⟨g,rfl,V⟩:=K i N;have HS:=jp (Zfr N);have HE:=jp (isEmpty_iff G[i]);generalize G[i]=s at *;have he:(((i+1:Nat):Int) - 1)=(i:Int):=jo
   rw [he];clear he K v f;cases f:s.toList.isEmpty
   .have D:Hid (m=ZcH (G.drop i) i):=by
     show m=_;rw [HS.out,if_neg (fun e=>by have:=HE.out.2 e;rw [f] at this;cases this)];exact U.out
    go_wp2
    go_roundg i
    case measure=>omega
    case rel=>exact ⟨rfl,m,i,hm,jo,rfl,rfl,rfl,D.out⟩
   .have D:Hid (i=ZcH (G.drop i) i):=by
     show i=_;rw [HS.out,if_pos (HE.out.1 f)]
    go_wp2
    go_roundg i
    case measure=>omega
    case rel=>exact ⟨rfl,i,i,jo,jo,rfl,rfl,rfl,D.out⟩
  .have:j=0:=jo
   subst this
   have q:∀W:Int,W=(if 0<c then b else 0)->Hid (R=Ai (Zad (({data:=#[81]}:jt)++Zaa [o,a,c,W,(m:Int)] ⟨#[52,49,52,49,50]⟩ 5).data.toList)):=fun W e=>by
    show R=_;have:=U.out;rw [List.drop_zero] at this;rw [HR.out,e,this]
   clear U HR K;go_wp2_with fail;refine v.mono ?_;rintro e w2 ⟨rfl,rfl⟩;clear v;by_cases Zcs:0<c
   .have O:=q b (by rw [if_pos Zcs]);clear q;go_upto_region 11 with fail
    go_cut [7] (fun X wc=>X= .string (Zaa [o,a,c,b,(m:Int)] ⟨#[52,49,52,49,50]⟩ 5)/\Aa w wc)
    case first=>
     go_region_held3 (fun w'=>Aa w w'/\w'.cell? ⟨p,0,none⟩=some (.int .i64 a)/\w'.cell? ⟨p,2,none⟩=some (.int .i64 c)) ((refine Jj ?_ h0 h2;exact jq)) ((go_at_call 76;refine (Zas _ 5 _ _ [o,a,c,b,m] _ rfl ji Of (by intro t u;match t,u with|0,_=>simp|1,_=>simp|2,_=>simp|3,_=>simp|4,_=>simp) (Aj.five F hs H Q ⟨jo,jo⟩)).mono ?_;rintro e w4 ⟨z,rfl,Y,P⟩))
     all_goals
      rw [show z=_ from P];clear P;go_wp2;go_meet
      case rel=>exact ⟨rfl,jq⟩
    case rest=>
     obtain ⟨rfl,hb⟩:=hcut;have Z:=ZdH o a c b (m:Int);have l:=fun C=>f (({data:=#[81]}:jt)++Zaa [o,a,c,b,(m:Int)] ⟨#[52,49,52,49,50]⟩ 5) C (by rw [jY,show (({data:=#[81]}:jt)).size=1 from rfl];omega)
     have x:Hid (∀t,TQ (Ai (Zad (({data:=#[81]}:jt)++Zaa [o,a,c,b,(m:Int)] ⟨#[52,49,52,49,50]⟩ 5).data.toList)) t->TQ R t):=fun t u=>(show t=R from by rw [O.out];exact u)
     clear O f;generalize Zaa [o,a,c,b,(m:Int)] ⟨#[52,49,52,49,50]⟩ 5=z at *;go_wp2_with fail;refine (l _).mono ?_;rintro e w5 ⟨t,rfl,aa,u⟩;have HT:=jp (x.out t u);clear x u l;go_wp2;go_ret;exact ⟨_,rfl,jq,HT.out⟩
   .have O:=q 0 (by rw [if_neg Zcs]);clear q;go_upto_region 11 with fail
    go_cut [7] (fun X wc=>X= .string (Zaa [o,a,c,0,(m:Int)] ⟨#[52,49,52,49,50]⟩ 5)/\Aa w wc)
    case first=>
     go_region_held3 (fun w'=>Aa w w'/\w'.cell? ⟨p,0,none⟩=some (.int .i64 a)/\w'.cell? ⟨p,2,none⟩=some (.int .i64 c)) ((refine Jj ?_ h0 h2;exact jq)) ((go_at_call 76;refine (Zas _ 5 _ _ [o,a,c,0,m] _ rfl ji Of (by intro t u;match t,u with|0,_=>simp|1,_=>simp|2,_=>simp|3,_=>simp|4,_=>simp) (Aj.five F hs H ⟨ji,ji⟩ ⟨jo,jo⟩)).mono ?_;rintro e w4 ⟨z,rfl,Y,P⟩))
     all_goals
      rw [show z=_ from P];clear P;go_wp2;go_meet
      case rel=>exact ⟨rfl,jq⟩
    case rest=>
     obtain ⟨rfl,hb⟩:=hcut;have Z:=ZdH o a c 0 (m:Int);have l:=fun C=>f (({data:=#[81]}:jt)++Zaa [o,a,c,0,(m:Int)] ⟨#[52,49,52,49,50]⟩ 5) C (by rw [jY,show (({data:=#[81]}:jt)).size=1 from rfl];omega)
     have x:Hid (∀t,TQ (Ai (Zad (({data:=#[81]}:jt)++Zaa [o,a,c,0,(m:Int)] ⟨#[52,49,52,49,50]⟩ 5).data.toList)) t->TQ R t):=fun t u=>(show t=R from by rw [O.out];exact u)
     clear O f;generalize Zaa [o,a,c,0,(m:Int)] ⟨#[52,49,52,49,50]⟩ 5=z at *;go_wp2_with fail;refine (l _).mono ?_;rintro e w5 ⟨t,rfl,aa,u⟩;have HT:=jp (x.out t u);clear x u l;go_wp2;go_ret;exact ⟨_,rfl,jq,HT.out⟩
theorem Au.At.open {M:jr} {x:Au} {w:jj} (h:x.At M w):BX w x.p x.speaks x.has x.gen x.format x.got x.no/\(0<=x.speaks/\x.speaks<=3)/\Aj x.gen/\Aj x.format/\Di w x.got x.gs/\x.gs.length<=65535/\Do w x.has x.hx/\∀g,x.got.ownBlock=some g->g≠x.p:=by
 obtain ⟨a,b,c,d,f,i,k,l⟩:=h;exact ⟨a,b,c,d,f,i,k.unmask,l⟩
theorem ZdT (c:Ac) (E:List EI) (k:jt):∀n,C9 {c with formats:=0} E k n=C9 c E k n
 |0=>rfl
 |n+1=>by
  rw [C9,C9,ZdT c E k n]
theorem ZeI (c:Ac) (B:List BK) (E:List EI) (k:jt):GR {c with formats:=0} B E k=GR c B E k:=by
 unfold GR Dc;rw [ZdT]
theorem ZfD {E:List EI} (h:GC E):IA E:=by
 refine List.pairwise_iff_getElem.2 fun i j c f a=>?_
 obtain ⟨d,rfl⟩:∃d,j=i+1+d:=⟨j - i - 1,jo⟩;clear a
 induction d with
 |zero=>
  have:=h i jo;unfold Ii at this;simp only [Nat.add_zero];omega
 |succ d ih=>
  have g:=ih jo;have b:=h (i+1+d) jo;unfold Ii at b;simp only [show i+1+(d+1)=i+1+d+1 by omega];omega
theorem Zed {p:AF} {c:Ac} {a:Int} {B:List BK} {E:List EN} (h:Zc9 p (some (c,a,B,E))) (o:p.OK) (d:Dh c a B E):ZcV c B p.E E:=by
 obtain ⟨q,w,r,s,t⟩:=h;obtain ⟨f,g⟩:=o.held q;have l:=g.good;rw [s] at l;refine ⟨?_,fun u=>?_⟩
 .rw [t,List.map_map];refine List.map_congr_left fun x hx=>?_
  obtain ⟨b,v,i⟩:=d.2.2.2.2.1 x hx;obtain ⟨m,n,rfl⟩:=List.getElem_of_mem v;show (wv x.2.1 x.2.2,x.1)=(wv x.2.1 x.2.2,A7 B (Bq x.1 B:Int));rw [<-i,RM l.2 n,IY n]
 .have k:Fq p.c.alg=true:=by
   rw [r];exact ZaF (c:=c) (b:=true) ⟨fun _=>u,fun _=>rfl⟩
  exact ⟨ZfD (g.right.2.2.2 k).1,g.pts⟩
theorem Wu (w:jj) (a:Addr) (v:ju) (o:Obj) (h:a.block<w.heap.size):(w.setCell a v).alloc o=(w.alloc o).setCell a v:=by
 unfold World.setCell World.alloc;simp only;congr 1;apply Array.ext
 .simp
 .intro i c d;simp only [Array.getElem_push,Array.getElem_modify,Array.size_modify];by_cases b:i<w.heap.size
  .simp [b]
  .have:a.block≠i:=jo
   simp [b,this]
def QA (b:Aw) (s p:Nat) (z:Au) (e:Ending) (w':jj):Prop:=e= .returned (.tuple #[])/\∃a,Ao b s a w'/\a.p=p/\z.At a.M w'
theorem Sc (V:Aw) (s:Nat) (x:WG) (k:Nat) (Z:k<x.prs.length) (J A B C:Int) (S:jt) (w:jj) (h:Ao V s x w) (_hs:s<=69999) (W:J=12\/J=14\/J=15\/J=16\/J=17) (hC:J=14->Aj C) (Q:¬(0<=B/\B<((x.prs[k]).ps.length:Int))):
  Calls Tryz.prog 43 #[.pointer (some ⟨x.p,0,none⟩),.pointer (some ⟨(x.prs[k]).a,0,none⟩),AB J A B C S] w (Hg V x.p (s+1)):=by
 have g:=h.pair_at k Z;have l:Hid (∀z,Aa w z->Hg V x.p (s+1) (.returned (.bool true)) z):=fun z hb=>⟨rfl,x,(h.later hb).up (by omega),rfl⟩
 have D:¬(0<=B/\B<(x.prs[k]).pp.length):=by have:=(h.even k Z).1;omega
 have c:=fun z (b:Aa w z)=>Zd5 B (g.2.1.later b) D
 have m:=fun (t:jt) z (b:Aa w z)=>VS B t (g.2.1.later b) D
 have o:=fun z (b:Aa w z)=>YO B (g.2.1.later b) D
 have r:=fun z (b:Aa w z)=>Zfc B (g.2.1.later b) D
 have u:=fun z (b:Aa w z)=>ZfA B S (g.2.1.later b) D
 unfold Ff at c;simp only [Zcn] at c;have d:=fun (hc:Aj C) z (b:Aa w z)=>FI V s x C z (h.later b) (by omega) hc
 have c0:=g.1.1 0 _ rfl;have c9:=g.1.1 9 _ rfl;obtain ⟨ao,cap,hv⟩:=CP g.2.2.2.2.2.2.2.1;rw [hv] at c9;have K:=jp hC;clear h g D hC;generalize x.M=M0 at *;generalize x.prs[k]=y at *;generalize x.p=p at *;generalize y.ps.length=n at *
 have F:decide (0<=B)=false\/(decide (0<=B)=true/\decide (B<(n:Int))=false):=by
  by_cases E:0<=B
  .exact Or.inr ⟨jL E,jK (fun L=>Q ⟨E,L⟩)⟩
  .exact Or.inl (jK E)
 clear Q;unfold AB;go_enter Tryz.func43,Tryz.ntmps43;go_wp2_with fail;obtain ⟨wo,R,v,o0,o1,N,o3,o4⟩:=BV w (.int .i64 J) (.int .i64 A) (.int .i64 B) (.int .i64 C) (.string S) 28;rw [R];clear R;have O:=v.cell c0;have k9:=v.cell c9;have aa:y.a<wo.heap.size:=jF O;have X:w.heap.size<wo.heap.size:=jF o0;generalize w.heap.size=P at o0 o1 N o3 o4 X |-;rcases W with rfl|rfl|rfl|rfl|rfl
 .clear m o r u d K;rcases F with E|⟨E,L⟩
  all_goals
   go_quiet (fail);go_wp2_with fail;go_region_held3 (fun w'=>Aa wo w'/\w'.cell? ⟨y.a,0,none⟩=some (.pointer (some ⟨y.q,0,none⟩))/\w'.cell? ⟨P,2,none⟩=some (.int .i64 B)) ((exact ⟨jq,Aa.cell (a:=wo) jq O,Aa.cell (a:=wo) jq N⟩)) ((go_at_call 77;refine (c _ jq).mono ?_;rintro e H ⟨rfl,i⟩;have I:Aa wo H:=jq;clear i));go_wp2
   all_goals
    go_ret;exact l.out _ (v.trans jq)
 .clear c o r u;rcases F with E|⟨E,L⟩
  all_goals
   go_quiet (fail);go_wp2_with fail;refine (d (K.out (by first|rfl|trivial)) _ (v.trans jq)).mono ?_;rintro e T ⟨f,rfl,Y,ab⟩;have G:Aa wo T:=jq
   have j0:=G.cell O;have j2:=G.cell N;have U:=v.trans G;clear d Y K;go_wp2_with fail;go_region_held3 (fun w'=>Aa T w'/\w'.cell? ⟨y.a,0,none⟩=some (.pointer (some ⟨y.q,0,none⟩))/\w'.cell? ⟨P,2,none⟩=some (.int .i64 B)) ((exact ⟨jq,Aa.cell (a:=T) jq j0,Aa.cell (a:=T) jq j2⟩)) ((go_at_call 79;refine (m f _ jq).mono ?_;rintro e H ⟨rfl,i⟩;have I:Aa T H:=jq;clear i));go_wp2
   all_goals
    go_ret;exact l.out _ (U.trans jq)
 .clear c m r u d K;rcases F with E|⟨E,L⟩
  all_goals
   go_quiet (fail);go_wp2_with fail;go_region_held3 (fun w'=>Aa wo w'/\w'.cell? ⟨y.a,0,none⟩=some (.pointer (some ⟨y.q,0,none⟩))/\w'.cell? ⟨P,2,none⟩=some (.int .i64 B)) ((exact ⟨jq,Aa.cell (a:=wo) jq O,Aa.cell (a:=wo) jq N⟩)) ((go_at_call 81;refine (o _ jq).mono ?_;rintro e H ⟨rfl,i⟩;have I:Aa wo H:=jq;clear i));go_wp2
   all_goals
    go_ret;exact l.out _ (v.trans jq)
 .clear c m o u d K;rcases F with E|⟨E,L⟩
  all_goals
   go_quiet (fail);go_wp2_with fail;go_region_held3 (fun w'=>Aa wo w'/\w'.cell? ⟨y.a,0,none⟩=some (.pointer (some ⟨y.q,0,none⟩))/\w'.cell? ⟨P,2,none⟩=some (.int .i64 B)) ((exact ⟨jq,Aa.cell (a:=wo) jq O,Aa.cell (a:=wo) jq N⟩)) ((go_at_call 82;refine (r _ jq).mono ?_;rintro e H ⟨rfl,i⟩;have I:Aa wo H:=jq;clear i));go_wp2
   all_goals
    go_ret;exact l.out _ (v.trans jq)
 .clear c m o r d K;rcases F with E|⟨E,L⟩
  all_goals
   go_quiet (fail);go_wp2_with fail;go_region_held3 (fun w'=>Aa wo w'/\w'.cell? ⟨y.a,0,none⟩=some (.pointer (some ⟨y.q,0,none⟩))/\w'.cell? ⟨P,2,none⟩=some (.int .i64 B)/\w'.cell? ⟨P,4,none⟩=some (.string S)) ((exact ⟨jq,Aa.cell (a:=wo) jq O,Aa.cell (a:=wo) jq N,Aa.cell (a:=wo) jq o4⟩)) ((go_at_call 84;refine (u _ jq).mono ?_;rintro e H ⟨rfl,i⟩;have I:Aa wo H:=jq;clear i));go_wp2
   all_goals
    go_ret;exact l.out _ (v.trans jq)
theorem Q3 (D:Aw) (s:Nat) (x:WG) (k:Nat) (W:k<x.prs.length) (A B C:Int) (S:jt) (w:jj) (h:Ao D s x w) (_hs:s<=69999):
  Calls Tryz.prog 43 #[.pointer (some ⟨x.p,0,none⟩),.pointer (some ⟨(x.prs[k]).a,0,none⟩),AB 12 A B C S] w (Hg D x.p (s+1)):=by
 by_cases J:0<=B/\B<((x.prs[k]).ps.length:Int)
 rotate_left
 .exact Sc D s x k W 12 A B C S w h _hs (by omega) (fun _=>(by omega)) J
 have d:=h.pair_at k W;have ak:Hid (∀f,Aa w f->Hg D x.p (s+1) (.returned (.bool true)) f):=fun f Y=>⟨rfl,x,(h.later Y).up (by omega),rfl⟩
 have E:=h.even k W;have c:=fun (n:Nat) (Z:n<(x.prs[k]).pp.length) f (b:Aa w f)=>XD (x:=(x.prs[k]).svp) (d.2.1.later b) (n:=n) Z
 have i:=fun (n:Nat) (Z:n<(x.prs[k]).pp.length)=>(d.2.1.pl (n:=n) Z).2
 have u:=fun (t:jt) (ht:t.size<=16777216) f (b:Aa w f)=>LH D s x k W t f (h.later b) (by omega) (by omega)
 have K:w.heap.size∉x.M:=fun e=>by have:=(h.2.2.2.2.1 _ e).2;omega
 generalize x.M=M0 at *;generalize x.prs[k]=y at *;generalize x.p=p at *;have c0:=d.1.1 0 _ rfl;have c9:=d.1.1 9 _ rfl;have l:=d.2.2.2.2.2.2.2.1;have L:=d.2.2.2.2.2.2.2.2.2;have al:=d.2.2.2.2.2.2.2.2.1;have aa:=jF c0;simp only at aa;obtain ⟨ao,cap,hv⟩:=CP l;clear h d
 .obtain ⟨m,rfl⟩:=jM J.1;have o:m<y.ps.length:=by omega
  obtain ⟨g,am,F, -,ap,hc⟩:=Fo l (by omega);rw [hv] at F;simp only [Value.slice.injEq,true_and] at F;obtain ⟨rfl,rfl⟩:=F;have cm:w.cell? ⟨g,m,none⟩=some (.pointer (some ⟨(y.ps[m]).p,0,none⟩)):=(hc m o).trans (by simp [o]);have ab:=L _ (jJ o);have aq:decide ((m:Int)<(y.ps.length:Int))=true:=jL (by omega);rw [hv] at c9
  have N := fun t ht f (b : Aa w f) => (u t ht f b).mono (fun e w' hr => (show QA D (s + 1) p (y.ps[m]) e w' from by
    obtain ⟨h1, ⟨x', X, h3, h4⟩, -⟩ := hr
    exact ⟨h1, x', X, h3, h4.2.2.2.2.2.2.2.2.2 _ (jJ o)⟩))
  have G:m<y.pp.length:=by have:=E.1;omega
  have c:=c m G;have hrel:=E.at o G;have i:(y.pp[m]).2.1.OK:=i m G;have v:y.svp.ps[m]=y.pp[m]:=rfl;simp only [v] at c;clear u E v;clear hc L;clear l;generalize y.ps[m]=z at *;generalize y.ps.length=n at *;generalize (y.pp[m]).2.1=q at *
  have HG:Hid (Aj (Zcs z.hx)):=by
   show Aj _;have:=i.g;rw [hrel.has.gen];exact ⟨by omega,by omega⟩
  have O:=jp (Zcr.tick hrel);have ac:(Ai (IS q.g q.fm q.cg q.cf q.T)).size<=16777216:=by rw [NG];exact Q6 ..
  clear hrel i ab;generalize IS q.g q.fm q.cg q.cf q.T=I at *;unfold Ff at c;simp only at c;generalize Ai I=I at *;unfold AB;go_enter Tryz.func43,Tryz.ntmps43;go_wp2_with fail;obtain ⟨wo,P,r,o0,o1,o2,o3,o4⟩:=BV w (.int .i64 12) (.int .i64 A) (.int .i64 (m:Int)) (.int .i64 C) (.string S) 28;rw [P];clear P;have k0:=r.cell c0;have k9:=r.cell c9;have km:=r.cell cm;have ar:g<wo.heap.size:=jF km;have au:y.a<wo.heap.size:=jF k0;have ad:w.heap.size<wo.heap.size:=jF o0;generalize w.heap.size=po at o0 o1 o2 o3 o4 K ad |-;go_quiet (fail);go_wp2_with fail;go_quiet (fail);go_wp2_with fail;go_region_held3 (fun w'=>Aa wo w'/\w'.cell? ⟨y.a,0,none⟩=some (.pointer (some ⟨y.q,0,none⟩))/\w'.cell? ⟨po,2,none⟩=some (.int .i64 (m:Int))) ((exact ⟨jq,Aa.cell (a:=wo) jq k0,Aa.cell (a:=wo) jq o2⟩)) ((go_at_call 77;refine (c _ jq).mono ?_;rintro e w1 ⟨rfl,ae⟩;have Q:Aa wo w1:=jq;clear ae));have an:=r.trans Q;clear Q r k0 k9 km o0 o1 o2 o3 o4;go_wp2_with fail;refine (N I ac _ jq).mono ?_;rintro e w2 ⟨rfl,x2,X,af,R⟩;obtain ⟨hz,av,ag,ah,U,ai,V,aw⟩:=R.open;have H:=Zeb z.p z.speaks z.has z.hx z.gen z.format z.got z.gs z.no w2 hz V HG.out ⟨by omega,by omega⟩ ag ah U ai;rw [<-O.out] at H;have H2:Hid (∀f,Aa w2 f->Hg D p (s+1) (.returned (.bool true)) f):=fun f Y=>⟨rfl,x2,X.later Y,af⟩
  have ax:(I.toList==I.toList)=true:=FE.2 rfl;clear N X R hz V U O HG;go_wp2_with fail;refine H.mono ?_;rintro e w3 ⟨t3,rfl,ay,aj⟩;obtain rfl:t3=I:=aj;clear H;go_wp2
  all_goals
   go_ret;exact H2.out _ jq
theorem Wp (E:Aw) (s:Nat) (x:WG) (k:Nat) (P:k<x.prs.length) (A B C:Int) (S:jt) (w:jj) (h:Ao E s x w) (_hs:s<=69999) (hC:Aj C):
  Calls Tryz.prog 43 #[.pointer (some ⟨x.p,0,none⟩),.pointer (some ⟨(x.prs[k]).a,0,none⟩),AB 14 A B C S] w (Hg E x.p (s+1)):=by
 by_cases Q:0<=B/\B<((x.prs[k]).ps.length:Int)
 rotate_left
 .exact Sc E s x k P 14 A B C S w h _hs (by omega) (fun _=>hC) Q
 have l:=h.pair_at k P;have av:Hid (∀c,Aa w c->Hg E x.p (s+1) (.returned (.bool true)) c):=fun c hb=>⟨rfl,x,(h.later hb).up (by omega),rfl⟩
 have hD:=h.dpre k P _hs;have v:=h.even k P
 have R:Hid (∀c,El E.heap.size x.M x.prs[k] w c->Hg E x.p (s+1) (.returned (.bool true)) c):=fun c O=>by
  obtain ⟨x',h',hp⟩:=h.rpr k P O;exact ⟨rfl,x',h',hp⟩
 have F:=fun c (b:Aa w c)=>FI E s x C c (h.later b) (by omega) hC
 have G:w.heap.size∉x.M:=fun e=>by have:=(h.2.2.2.2.1 _ e).2;omega
 generalize x.M=M0 at *;generalize x.prs[k]=y at *;generalize x.p=p at *;have c0:=l.1.1 0 _ rfl;have c9:=l.1.1 9 _ rfl;have r:=l.2.2.2.2.2.2.2.1;have T:=l.2.2.2.2.2.2.2.2.2;have aw:=l.2.2.2.2.2.2.2.2.1;have aj:=jF c0;simp only at aj;obtain ⟨ao,cap,hv⟩:=CP r;clear h l
 .obtain ⟨m,rfl⟩:=jM Q.1;have d:m<y.ps.length:=by omega
  obtain ⟨g,ax,K, -,ay,hc⟩:=Fo r (by omega);rw [hv] at K;simp only [Value.slice.injEq,true_and] at K;obtain ⟨rfl,rfl⟩:=K;have cm:w.cell? ⟨g,m,none⟩=some (.pointer (some ⟨(y.ps[m]).p,0,none⟩)):=(hc m d).trans (by simp [d]);have ak:=T _ (jJ d);have az:decide ((m:Int)<(y.ps.length:Int))=true:=jL (by omega);rw [hv] at c9;have L:m<y.pp.length:=by have:=v.1;omega
  have HD:=jp hD;have U:=jp v;have V:=fun (t:jt) (ht:t.size<=1099511627776) c (b:Aa w c)=>HD.out.receive L t ht c b
  have D:=jp (v.at d L);have W:Hid ((y.pp[m]).2.1.OK):=(HD.out.1.2.1.pl (n:=m) L).2;clear hD v r;clear hc T;clear ak;unfold AB;go_enter Tryz.func43,Tryz.ntmps43;go_wp2_with fail;obtain ⟨wo,X,o,o0,o1,o2,o3,o4⟩:=BV w (.int .i64 14) (.int .i64 A) (.int .i64 (m:Int)) (.int .i64 C) (.string S) 28;rw [X];clear X;have k0:=o.cell c0;have k9:=o.cell c9;have km:=o.cell cm;have Y:g<wo.heap.size:=jF km;have a0:y.a<wo.heap.size:=jF k0;have al:w.heap.size<wo.heap.size:=jF o0;generalize w.heap.size=po at o0 o1 o2 o3 o4 G al |-;go_quiet (fail);go_wp2_with fail;go_quiet (fail);go_wp2_with fail;refine (F _ (o.trans jq)).mono ?_;rintro e w3 ⟨f,rfl,am,Z⟩;have i:Aa wo w3:=jq
  have j0:=i.cell k0;have j2:=i.cell o2;have aa:=o.trans i;clear F am o i k0 k9 km o0 o1 o2 o3 o4;go_wp2_with fail;go_region_held3 (fun w'=>w'.cell? ⟨y.a,0,none⟩=some (.pointer (some ⟨y.q,0,none⟩))/\w'.cell? ⟨po,2,none⟩=some (.int .i64 (m:Int))) ((first|exact ⟨l0,l2⟩|exact ⟨Aa.cell (a:=w3) jq j0,Aa.cell (a:=w3) jq j2⟩)) ((go_at_call 79;refine (V f Z _ jq).mono ?_;rintro e w1 ⟨rfl,H,pb,R',N⟩;have l2:=H ⟨po,2,none⟩ _ G (Aa.cell (a:=w3) jq j2);obtain ⟨M1,u⟩:=N.at;have l0:w1.cell? ⟨y.a,0,none⟩=some (.pointer (some ⟨y.q,0,none⟩)):=u.1.1 0 _ rfl));have ab:=(show (y.ps[m]).At M1 w1 from u.2.2.2.2.2.2.2.2.2 _ (jJ d))
  have HC:Hid (∀c e w',Aa w1 c->Jy c (y.ps[m]).p (y.ps[m]).speaks (y.ps[m]).has (y.ps[m]).got (y.ps[m]).hx (ZcP (y.ps[m]).speaks (y.ps[m]).hx (y.ps[m]).gen (y.ps[m]).format (y.ps[m]).gs (y.ps[m]).no f.data.toList) e w'->El E.heap.size M0 y w w'):=fun c e w' b O=>by
   refine HD.out.thenE N rfl (fun M' an=>?_);obtain ⟨z',ap,ac,Y⟩:=an.comes d b O;refine ⟨_,ap,?_⟩;refine U.out.set d ?_;have:=Y _ D.out;unfold Au.rel;rw [ac];exact this
  have I:(y.ps[m]).speaks=((y.pp[m]).2.1.fm:Int):=D.out.sp;have aq:0<=Zcs (y.ps[m]).hx:=by rw [D.out.has.gen];omega
  have ar:(y.pp[m]).2.1.fm<=3:=W.out.fm.2;clear u N HD U D W V j0 j2 aa l0 l2 H;generalize (y.pp[m]).2.1.fm=sp at *;generalize y.ps[m]=z at *;obtain ⟨hz,au,ad,ae,af,ag,ah,ai⟩:=ab.open;rw [I] at hz HC;have J:=fun c (b:Aa w1 c)=>Yz z.p sp z.has z.hx z.gen z.format z.got z.gs z.no f c (hz.later b) (ah.later b) ar aq ad ae (af.later b) ag ai Z
  clear ab hz au ad ae af ag ah ai I;go_wp2_with fail;refine (J _ jq).mono ?_;intro e w4 O;have HR:=jp (R.out w4 (HC.out _ e w4 jq O));obtain ⟨rfl, -⟩:=O;clear J HC R;go_wp2
  all_goals
   go_ret;exact HR.out
theorem Xz (D:Aw) (s:Nat) (x:WG) (k:Nat) (N:k<x.prs.length) (A B C:Int) (S:ByteArray) (w:World) (h:Ao D s x w) (_hs:s<=69999):
  Calls Tryz.prog 43 #[.pointer (some ⟨x.p,0,none⟩),.pointer (some ⟨(x.prs[k]).a,0,none⟩),AB 15 A B C S] w (Hg D x.p (s+1)):=by
 by_cases O:0<=B/\B<((x.prs[k]).ps.length:Int)
 rotate_left
 .exact Sc D s x k N 15 A B C S w h _hs (by omega) (fun _=>(by omega)) O
 have o:=h.pair_at k N;have ag:Hid (∀t,Aa w t->Hg D x.p (s+1) (.returned (.bool true)) t):=fun t hb=>⟨rfl,x,(h.later hb).up (by omega),rfl⟩
 have hD:=h.dpre k N _hs;have u:=h.even k N
 have G:Hid (∀t,El D.heap.size x.M x.prs[k] w t->Hg D x.p (s+1) (.returned (.bool true)) t):=fun t hr=>by
  obtain ⟨x',h',hp⟩:=h.rpr k N hr;exact ⟨rfl,x',h',hp⟩
 have E:w.heap.size∉x.M:=fun e=>by have:=(h.2.2.2.2.1 _ e).2;omega
 generalize x.M=M0 at *;generalize x.prs[k]=y at *;generalize x.p=p at *;have Z:=o.1.1 0 _ rfl;have c9:=o.1.1 9 _ rfl;have r:=o.2.2.2.2.2.2.2.1;have P:=o.2.2.2.2.2.2.2.2.2;have ah:=o.2.2.2.2.2.2.2.2.1;have aa:=jF Z;simp only at aa;obtain ⟨ao,cap,L⟩:=CP r;clear h o
 .obtain ⟨m,rfl⟩:=jM O.1;have c:m<y.ps.length:=by omega
  obtain ⟨g,ai,H, -,an,hc⟩:=Fo r (by omega);rw [L] at H;simp only [Value.slice.injEq,true_and] at H;obtain ⟨rfl,rfl⟩:=H;have cm:w.cell? ⟨g,m,none⟩=some (.pointer (some ⟨(y.ps[m]).p,0,none⟩)):=(hc m c).trans (by simp [c]);have ab:=P _ (jJ c);have ap:decide ((m:Int)<(y.ps.length:Int))=true:=jL (by omega);rw [L] at c9;have Q:m<y.pp.length:=by have:=u.1;omega
  have HD:=jp hD;have R:=jp u;have T:=fun t (b:Aa w t)=>HD.out.restartP Q t b
  have U:Hid ((y.ps[m]).speaks=((y.pp[m]).2.1.fm:Int)):=(u.at c Q).sp;clear hD u r;clear hc P;clear ab;unfold AB;go_enter Tryz.func43,Tryz.ntmps43;go_wp2_with fail;obtain ⟨wo,V,v,o0,o1,Y,o3,o4⟩:=BV w (.int .i64 15) (.int .i64 A) (.int .i64 (m:Int)) (.int .i64 C) (.string S) 28;rw [V];clear V;have k0:=v.cell Z;have k9:=v.cell c9;have km:=v.cell cm;have aq:g<wo.heap.size:=jF km;have ar:y.a<wo.heap.size:=jF k0;have ac:w.heap.size<wo.heap.size:=jF o0;generalize w.heap.size=po at o0 o1 Y o3 o4 E ac |-;go_quiet (fail);go_wp2_with fail;go_quiet (fail);go_wp2_with fail;go_region_held3 (fun w'=>w'.cell? ⟨y.a,0,none⟩=some (.pointer (some ⟨y.q,0,none⟩))/\w'.cell? ⟨po,2,none⟩=some (.int .i64 (m:Int))) ((first|exact ⟨l0,l2⟩|exact ⟨Aa.cell (a:=wo) jq k0,Aa.cell (a:=wo) jq Y⟩)) ((go_at_call 81;refine (T _ jq).mono ?_;rintro e l ⟨rfl,F,pb,R',I⟩;have l2:=F ⟨po,2,none⟩ _ E (Aa.cell (a:=wo) jq Y);obtain ⟨M1,d⟩:=I.at;have l0:l.cell? ⟨y.a,0,none⟩=some (.pointer (some ⟨y.q,0,none⟩)):=d.1.1 0 _ rfl));have j9:l.cell? ⟨y.a,9,none⟩=some y.vp:=d.1.1 9 _ rfl;have i:l.ownsRow D.heap.size 101 1 y.vp y.ps.length (y.ps.map fun z=>Value.pointer (some ⟨z.p,0,none⟩)):=d.2.2.2.2.2.2.2.1;have J:=(show (y.ps[m]).At M1 l from d.2.2.2.2.2.2.2.2.2 _ (jJ c));obtain ⟨g1,aj,K, -, -,W⟩:=Fo i (by omega);rw [L] at K;simp only [Value.slice.injEq,true_and,Option.some.injEq,Addr.mk.injEq,and_true] at K;obtain ⟨rfl,rfl⟩:=K;have jm:l.cell? ⟨g,m,none⟩=some (.pointer (some ⟨(y.ps[m]).p,0,none⟩)):=(W m c).trans (by simp [c]);have jf:=World.ownsRow.frozenAt (L ▸ i) m;have z0:=J.1.1.1;have ad:=J.2.1;rw [L] at j9;have ak:po<l.heap.size:=jF l2;have al:y.a<l.heap.size:=jF j9;have X:g<l.heap.size:=jF jm;have am:(y.ps[m]).p<l.heap.size:=jF z0
  have HW:Hid (El D.heap.size M0 y w ((l.setCell ⟨g,m,none⟩ (.pointer (some ⟨l.heap.size,0,none⟩))).alloc (.cells #[.int .i64 (y.ps[m]).speaks,.pointer none,.int .i64 0,.int .i64 0,.slice none 0 0,.bool false] 103))):=by
   show El _ _ _ _ _;rw [Wu _ _ _ _ X];have ae:BX (l.alloc (.cells #[.int .i64 (y.ps[m]).speaks,.pointer none,.int .i64 0,.int .i64 0,.slice none 0 0,.bool false] 103)) l.heap.size (y.ps[m]).speaks (.pointer none) 0 0 (.slice none 0 0) false:=⟨⟨by simp,by simp,by simp,by simp,by simp,by simp⟩,fun j=>by simp⟩;refine ⟨_,HD.out.then I rfl (fun M' af=>af.restart (pz:=l.heap.size) (f:=(y.ps[m]).speaks) (Aa.step_alloc (jD _) _) (jH _) (by simp) ae ad c L),?_⟩;refine R.out.set c ?_;show Zcr _ _ _ _ _ _ _;unfold Au.fresh;simp only;rw [U.out];exact Zcr.new _
  clear d I HD R U T i W J F v k0 k9 km o0 o1 Y o3 o4 Z c9 cm;generalize y.ps[m]=z at *;generalize y.ps.length=n at *;go_wp2_with fail;go_region
  all_goals
   have HF:=jp (G.out _ (HW.out.later (jB (jD _))));clear HW G;go_wp2
   all_goals
    go_ret
    first|exact HF.out|exact G.out _ (HW.out.later jq)
theorem WA (Q:Aw) (s:Nat) (x:WG) (k:Nat) (R:k<x.prs.length) (A B C:Int) (S:jt) (w:jj) (h:Ao Q s x w) (_hs:s<=69999):
  Calls Tryz.prog 43 #[.pointer (some ⟨x.p,0,none⟩),.pointer (some ⟨(x.prs[k]).a,0,none⟩),AB 16 A B C S] w (Hg Q x.p (s+1)):=by
 by_cases E:0<=B/\B<((x.prs[k]).ps.length:Int)
 rotate_left
 .exact Sc Q s x k R 16 A B C S w h _hs (by omega) (fun _=>(by omega)) E
 have d:=h.pair_at k R;have F:Hid (∀t,Aa w t->Hg Q x.p (s+1) (.returned (.bool true)) t):=fun t hb=>⟨rfl,x,(h.later hb).up (by omega),rfl⟩
 have v:=h.even k R;have c:=fun (n:Nat) (hn:n<(x.prs[k]).pp.length) t (b:Aa w t)=>TZ (x:=(x.prs[k]).svp) (d.2.1.later b) (n:=n) hn
 have G:w.heap.size∉x.M:=fun e=>by have:=(h.2.2.2.2.1 _ e).2;omega
 generalize x.M=M0 at *;generalize x.prs[k]=y at *;generalize x.p=p at *;have c0:=d.1.1 0 _ rfl;have c9:=d.1.1 9 _ rfl;have i:=d.2.2.2.2.2.2.2.1;have H:=d.2.2.2.2.2.2.2.2.2;have aa:=d.2.2.2.2.2.2.2.2.1;have T:=jF c0;simp only at T;obtain ⟨ao,cap,hv⟩:=CP i;clear h d
 .obtain ⟨m,rfl⟩:=jM E.1;have r:m<y.ps.length:=by omega
  obtain ⟨g,ab,D, -,ac,hc⟩:=Fo i (by omega);rw [hv] at D;simp only [Value.slice.injEq,true_and] at D;obtain ⟨rfl,rfl⟩:=D;have cm:w.cell? ⟨g,m,none⟩=some (.pointer (some ⟨(y.ps[m]).p,0,none⟩)):=(hc m r).trans (by simp [r]);have I:=H _ (jJ r);have ad:decide ((m:Int)<(y.ps.length:Int))=true:=jL (by omega);rw [hv] at c9;have J:m<y.pp.length:=by have:=v.1;omega
  have c:=c m J;have hrel:=v.at r J;have u:y.svp.ps[m]=y.pp[m]:=rfl;simp only [u] at c;clear v u;clear hc H;clear i;generalize y.ps[m]=z at *;generalize y.ps.length=n at *;obtain ⟨hz,ae,af,ag,ah,ai,K,aj⟩:=I.open;have Zcs:=fun t (b:Aa w t)=>Zdn z.p z.speaks z.has z.hx z.gen z.format z.got z.no t (hz.later b) (K.later b)
  rw [hrel.has.gen] at Zcs;have l:=hrel.no;generalize (y.pp[m]).2.1=q at *;unfold Ix F4 at c;simp only [<-l] at c;obtain ⟨er,f⟩:∃er:Int,er=(if z.no=true then 11 else 0):=⟨_,rfl⟩;rw [<-f] at c;have L:=jp f;clear l hrel f;generalize q.g=g0 at *;have U:=hz.1.2.2.2.2.2;clear K;clear I;unfold AB;go_enter Tryz.func43,Tryz.ntmps43;go_wp2_with fail;obtain ⟨wo,N,o,V,o1,W,o3,o4⟩:=BV w (.int .i64 16) (.int .i64 A) (.int .i64 (m:Int)) (.int .i64 C) (.string S) 28;rw [N];clear N;have X:=o.cell c0;have k9:=o.cell c9;have km:=o.cell cm;have ak:g<wo.heap.size:=jF km;have al:y.a<wo.heap.size:=jF X;have Y:w.heap.size<wo.heap.size:=jF V;generalize w.heap.size=po at V o1 W o3 o4 G Y |-;go_quiet (fail);go_wp2_with fail;go_quiet (fail);go_wp2_with fail;go_region_held3 (fun w'=>Aa wo w'/\w'.cell? ⟨y.a,0,none⟩=some (.pointer (some ⟨y.q,0,none⟩))/\w'.cell? ⟨po,2,none⟩=some (.int .i64 (m:Int))) ((exact ⟨jq,Aa.cell (a:=wo) jq X,Aa.cell (a:=wo) jq W⟩)) ((go_at_call 82;refine (c _ jq).mono ?_;rintro e w1 ⟨rfl,Z⟩;have O:Aa wo w1:=jq;clear Z));have P:=o.trans O;have z5:=P.cell U;clear O o X k9 km V o1 W o3 o4;go_wp2_with fail;refine (Zcs _ jq).mono ?_;rintro e w2 ⟨rfl,rfl⟩;clear Zcs;cases l:z.no
  all_goals
   rw [l] at z5;have f:=L.out;rw [l] at f;simp only [if_true,Bool.false_eq_true,if_false] at f;subst f;clear L;go_wp2
   all_goals
    go_ret;exact F.out _ jq
theorem Sz (W0:Aw) (s:Nat) (x:WG) (k:Nat) (hk:k<x.prs.length) (A B C:Int) (S:jt) (w:jj) (h:Ao W0 s x w) (_hs:s<=69999) (hS:S.size<=65536):
  Calls Tryz.prog 43 #[.pointer (some ⟨x.p,0,none⟩),.pointer (some ⟨(x.prs[k]).a,0,none⟩),AB 17 A B C S] w (Hg W0 x.p (s+1)):=by
 by_cases W:0<=B/\B<((x.prs[k]).ps.length:Int)
 rotate_left
 .exact Sc W0 s x k hk 17 A B C S w h _hs (by omega) (fun _=>(by omega)) W
 have f:=h.pair_at k hk;have G:Hid (∀H,Aa w H->Hg W0 x.p (s+1) (.returned (.bool true)) H):=fun H hb=>⟨rfl,x,(h.later hb).up (by omega),rfl⟩
 have L:=h.even k hk;have d:=fun (n:Nat) (hn:n<(x.prs[k]).pp.length) H (b:Aa w H)=>YC (x:=(x.prs[k]).svp) (f.2.1.later b) (n:=n) hn S (by omega)
 have I:=fun (n:Nat) (hn:n<(x.prs[k]).pp.length)=>(f.2.1.pl (n:=n) hn).2
 have Y:w.heap.size∉x.M:=fun e=>by have:=(h.2.2.2.2.1 _ e).2;omega
 generalize x.M=M0 at *;generalize x.prs[k]=y at *;generalize x.p=p at *;have c0:=f.1.1 0 _ rfl;have c9:=f.1.1 9 _ rfl;have l:=f.2.2.2.2.2.2.2.1;have Z:=f.2.2.2.2.2.2.2.2.2;have aj:=f.2.2.2.2.2.2.2.2.1;have af:=jF c0;simp only at af;obtain ⟨ao,cap,hv⟩:=CP l;clear h f
 .obtain ⟨m,rfl⟩:=jM W.1;have v:m<y.ps.length:=by omega
  obtain ⟨g,ak,N, -,am,hc⟩:=Fo l (by omega);rw [hv] at N;simp only [Value.slice.injEq,true_and] at N;obtain ⟨rfl,rfl⟩:=N;have cm:w.cell? ⟨g,m,none⟩=some (.pointer (some ⟨(y.ps[m]).p,0,none⟩)):=(hc m v).trans (by simp [v]);have aa:=Z _ (jJ v);have an:decide ((m:Int)<(y.ps.length:Int))=true:=jL (by omega);rw [hv] at c9;have O:m<y.pp.length:=by have:=L.1;omega
  have d:=d m O;have D:=jp (L.at v O);have P:Hid ((y.pp[m]).2.1.OK):=I m O;have J:y.svp.ps[m]=y.pp[m]:=rfl;simp only [J] at d;clear L J I;clear hc Z;clear l;generalize y.ps[m]=z at *;generalize y.ps.length=n at *;obtain ⟨hz,ap,aq,ar,au,av,ab,aw⟩:=aa.open;generalize (y.pp[m]).2.1=Q at *;obtain ⟨OW,R⟩:∃X,X=IR Q.g Q.c Q.B Q.E S:=⟨_,rfl⟩;rw [<-R] at d;have F:=jp R;obtain ⟨l1,l2⟩:=OW;unfold EH at d;simp only at d;clear aa R;unfold AB;go_enter Tryz.func43,Tryz.ntmps43;go_wp2_with fail;obtain ⟨wo,ac,o,o0,o1,o2,o3,o4⟩:=BV w (.int .i64 17) (.int .i64 A) (.int .i64 (m:Int)) (.int .i64 C) (.string S) 28;rw [ac];clear ac;have k0:=o.cell c0;have k9:=o.cell c9;have km:=o.cell cm;have ax:g<wo.heap.size:=jF km;have ay:y.a<wo.heap.size:=jF k0;have ag:w.heap.size<wo.heap.size:=jF o0;generalize w.heap.size=po at o0 o1 o2 o3 o4 Y ag |-;go_quiet (fail);go_wp2_with fail;go_quiet (fail);go_wp2_with fail;go_region_held3 (fun w'=>Aa wo w'/\w'.cell? ⟨y.a,0,none⟩=some (.pointer (some ⟨y.q,0,none⟩))/\w'.cell? ⟨po,2,none⟩=some (.int .i64 (m:Int))/\w'.cell? ⟨po,4,none⟩=some (.string S)) ((exact ⟨jq,Aa.cell (a:=wo) jq k0,Aa.cell (a:=wo) jq o2,Aa.cell (a:=wo) jq o4⟩)) ((go_at_call 84;refine (d _ jq).mono ?_;rintro e V ⟨rfl,ah⟩;have T:Aa wo V:=jq;clear ah));have r:=o.trans T;have z1:=r.cell hz.1.2.1;have m4:=T.cell o4;have ad:=ab.later r;clear o k0 k9 km o0 o1 o2 o3 o4 hz ab T;rcases ad with ⟨hh,t⟩|⟨q,c',hg,B',E',t,hh,ae,U,hW⟩
  .rw [hh] at z1
   have hl:(l1,l2)=((⟨#[]⟩:jt),(7:Int)):=by
    have h0:=D.out.has;rw [t] at h0;have h0:Q.g=0:=h0;rw [F.out];unfold IR;rw [if_pos h0]
   obtain ⟨rfl,rfl⟩:=Prod.mk.inj hl;clear hl F D P t;go_wp2
   all_goals
    go_ret;exact G.out _ jq
  .rw [hh] at z1;have i:=D.out.has;rw [t] at i
   have hl:(l1,l2)=GR c' B' Q.E S:=by
    rw [F.out];unfold IR;rw [if_neg i.1,i.2.2.1,i.2.2.2.1,ZeI]
   have u:=fun H (b:Aa V H)=>Uv q c' hg B' Q.E E' S H (ae.later b) U hW (by omega) (Zed i P.out U)
   rw [<-hl] at u;unfold EH at u;simp only at u;have az:(l1.toList==l1.toList)=true:=FE.2 rfl;clear ae U hW hl F D P t i;go_wp2_with fail;go_region_held3 (fun w'=>Aa V w'/\w'.cell? ⟨z.p,1,none⟩=some (.pointer (some ⟨q,0,none⟩))/\w'.cell? ⟨po,4,none⟩=some (.string S)) ((exact ⟨jq,Aa.cell (a:=V) jq z1,Aa.cell (a:=V) jq m4⟩)) ((go_at_call 69;refine (u _ jq).mono ?_;rintro e w3 ⟨rfl,ai⟩));have K:Aa V w3:=jq
   have al:=r.trans K;clear u m4 ai K;go_wp2
   all_goals
    go_ret;exact G.out _ jq
end Go.Proofs.YtpapdkhjdelfcaaGreat
