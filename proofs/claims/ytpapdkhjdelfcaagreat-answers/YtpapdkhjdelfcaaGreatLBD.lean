import Derived.Test.YtpapdkhjdelfcaaGreatLAZ
import Derived.Test.YtpapdkhjdelfcaaGreatLBC
namespace Go.Proofs.YtpapdkhjdelfcaaGreat
open Go.RowKit
set_option maxRecDepth 100000
set_option maxHeartbeats 4000000
def Di (w:World) (v:Value) (n:Nat):Prop:=(v= .slice none 0 0/\n=0)\/∃g cap,v= .slice (some ⟨g,0,none⟩) n cap/\g<w.heap.size/\∀j,j<n->∃s:ByteArray,w.cell? ⟨g,j,none⟩=some (.string s)/\w.frozen? ⟨g,j,none⟩=false/\s.size<=48
theorem Di.later {a w:World} {v:Value} {n:Nat} (h:Di a v n) (k:Aa a w):Di w v n:=by
 rcases h with h|⟨g,cap,c,d,f⟩
 .exact Or.inl h
 .refine Or.inr ⟨g,cap,c,jN d k.size,fun j i=>?_⟩;obtain ⟨s,b,l,m⟩:=f j i;exact ⟨s,k.cell b,k.frozen b l,m⟩
def BX (w:World) (p:Nat) (a:Int) (c:Value) (d b:Int) (f:Value) (g:Bool):Prop:=
 (w.cell? ⟨p,0,none⟩=some (.int .i64 a)/\w.cell? ⟨p,1,none⟩=some c/\w.cell? ⟨p,2,none⟩=some (.int .i64 d)/\w.cell? ⟨p,3,none⟩=some (.int .i64 b)/\w.cell? ⟨p,4,none⟩=some f/\w.cell? ⟨p,5,none⟩=some (.bool g))/\
 ∀j,w.frozen? ⟨p,j,none⟩=false
theorem BX.later {a w:World} {p:Nat} {b:Int} {d:Value} {f c:Int} {g:Value} {i:Bool} (h:BX a p b d f c g i) (k:Aa a w):BX w p b d f c g i:=by
 obtain ⟨⟨l,m,n,o,q,r⟩,s⟩:=h;refine ⟨⟨k.cell l,k.cell m,k.cell n,k.cell o,k.cell q,k.cell r⟩,fun j=>?_⟩;rw [k.below.frozen (p:=⟨p,j,none⟩) (World.block_lt_of_cell? a ⟨p,0,none⟩ l)];exact s j
def Do (w:World) (v:Value) (a:Int):Prop:=(v= .pointer none/\a=0)\/∃(q:Nat) (c:Ac) (B:List BK) (E:List EN),v= .pointer (some ⟨q,0,none⟩)/\Bz w q c a B E/\Dh c a B E/\∀x∈E,Af x.2.1/\Af x.2.2
theorem Do.later {a w:World} {v:Value} {b:Int} (h:Do a v b) (k:Aa a w):Do w v b:=by
 rcases h with h|⟨q,c,B,E,d,f,g⟩
 .exact Or.inl h
 .exact Or.inr ⟨q,c,B,E,d,f.later k,g⟩
theorem Do.i64 {w:World} {v:Value} {a:Int} (h:Do w v a):Aj a:=by
 rcases h with ⟨_,rfl⟩|⟨q,c,B,E,d,f,b,_⟩
 .exact ⟨ji,ji⟩
 .exact b.2.1
theorem LC (p:Nat) (a:Int) (d:Value) (i f b:Int) (g:Value) (k:Bool) (w:World) (h:BX w p a d f b g k) (l:Do w d i):
  Calls Tryz.prog 83 #[.pointer (some ⟨p,0,none⟩)] w fun e w'=>e= .returned (.int .i64 i)/\w=w':=by
 obtain ⟨⟨m,n,o,r,s,t⟩,u⟩:=h;rcases l with ⟨rfl,rfl⟩|⟨q,c,B,E,rfl,⟨v,x,_,y,_⟩,_⟩
 .go_enter Tryz.func83,Tryz.ntmps83;go_wp2;go_ret;exact ⟨rfl,rfl⟩
 .go_enter Tryz.func83,Tryz.ntmps83;go_wp2;go_ret;exact ⟨rfl,rfl⟩
theorem Of:GP ⟨#[52,49,52,49,50]⟩:=IH [52,49,52,49,50] ji
theorem Aj.five {a b c d e:Int} (f:Aj a) (g:Aj b) (i:Aj c) (k:Aj d) (l:Aj e):∀t,Aj ([a,b,c,d,e].getD t 0):=by
 intro t
 match t with
 |0=>exact f
 |1=>exact g
 |2=>exact i
 |3=>exact k
 |4=>exact l
 |_+5=>exact (show Aj 0 from ⟨ji,ji⟩)
theorem Vq (p:Nat) (a:Int) (f:Value) (u c b:Int) (l:Value) (d:Nat) (J:Bool) (w:World) (h:BX w p a f c b l J) (K:Do w f u) (L:Aj a) (n:Aj c) (x:Aj b) (o:Di w l d) (y:d<=65535):
  Calls Tryz.prog 78 #[.pointer (some ⟨p,0,none⟩)] w (En w Kz):=by
 have A:=h;obtain ⟨⟨M,N,O,X,Y,Z⟩,hf⟩:=h
 obtain ⟨B,cap,rfl,v⟩:∃B cap,l= .slice B d cap/\∀j,j<d->∃g s,B=some ⟨g,0,none⟩/\w.cell? ⟨g,j,none⟩=some (.string s):=by
  rcases o with ⟨rfl,rfl⟩|⟨g,cap,rfl,_,v⟩
  .exact ⟨_,_,rfl,fun j C=>by omega⟩
  .exact ⟨_,_,rfl,fun j C=>by obtain ⟨s,N,_⟩:=v j C;exact ⟨g,s,rfl,N⟩⟩
 go_enter Tryz.func78,Tryz.ntmps78;go_wp2;go_loopg [3,4] d (fun r k i wr=>w=wr/\∃(m:Nat) (j:Nat),m<=65535/\j<=d/\r=j/\k= .int .i64 m/\i= .int .i64 ((j:Int) - 1))
 case atStart=>exact ⟨rfl,d,d,y,by omega,rfl,rfl,rfl⟩
 case round=>
  obtain ⟨rfl,m,j,R,C,hr,rfl,rfl⟩:=hrel;by_cases S:0<j
  .obtain ⟨i,rfl⟩:∃i,j=i+1:=⟨j - 1,by omega⟩;obtain ⟨g,s,rfl,D⟩:=v i (by omega);have P:(((i+1:Nat):Int) - 1)=(i:Int):=by omega
   rw [P];clear P v;cases T:s.toList.isEmpty
   all_goals
    go_wp2_with fail;go_roundg i
    case measure=>omega
    case rel=>first|exact ⟨rfl,m,i,R,by omega,rfl,rfl,rfl⟩|exact ⟨rfl,i,i,by omega,by omega,rfl,rfl,rfl⟩
  .have:j=0:=by omega
   subst this;go_wp2_with fail;refine (LC p a f u c b _ J _ A K).mono ?_;rintro e w2 ⟨rfl,rfl⟩;have q:=K.i64;by_cases Q:0<c
   .go_upto_region 11 with fail
    go_cut [7] (fun E wc=>∃z:ByteArray,E= .string z/\z.size<=45/\Aa w wc)
    case first=>
     go_region_held3 (fun w'=>Aa w w'/\w'.cell? ⟨p,0,none⟩=some (.int .i64 a)/\w'.cell? ⟨p,2,none⟩=some (.int .i64 c)) ((refine Jj ?_ M O;(repeat (first|exact jD _|assumption|refine jA ?_|refine jB ?_|refine jC ?_|refine Aa.step_set ?_ (by simp <;>omega) _|refine jE ?_ (by assumption))))) ((go_at_call 76;refine (FS _ 5 _ _ [u,a,c,b,m] _ rfl (by decide) Of (by intro t F;match t,F with|0,_=>simp|1,_=>simp|2,_=>simp|3,_=>simp|4,_=>simp) (Aj.five q L n x ⟨by omega,by omega⟩)).mono ?_;rintro e U ⟨z,rfl,G,H⟩))
     all_goals
      go_wp2_with fail;go_meet
      case rel=>exact ⟨z,rfl,by omega,by (repeat (first|exact jD _|assumption|refine jA ?_|refine jB ?_|refine jC ?_|refine Aa.step_set ?_ (by simp <;>omega) _|refine jE ?_ (by assumption)))⟩
    case rest=>
     obtain ⟨z,rfl,H,V⟩:=hcut;go_wp2_with fail;refine (D3 _ _ (by rw [jY,show (({data:=#[81]}:ByteArray)).size=1 from rfl];omega)).mono ?_;rintro e W ⟨t,rfl,I, -⟩;go_wp2;go_ret;exact ⟨_,rfl,by (repeat (first|exact jD _|assumption|refine jA ?_|refine jB ?_|refine jC ?_|refine Aa.step_set ?_ (by simp <;>omega) _|refine jE ?_ (by assumption))),trivial⟩
   .go_upto_region 11 with fail
    go_cut [7] (fun E wc=>∃z:ByteArray,E= .string z/\z.size<=45/\Aa w wc)
    case first=>
     go_region_held3 (fun w'=>Aa w w'/\w'.cell? ⟨p,0,none⟩=some (.int .i64 a)/\w'.cell? ⟨p,2,none⟩=some (.int .i64 c)) ((refine Jj ?_ M O;(repeat (first|exact jD _|assumption|refine jA ?_|refine jB ?_|refine jC ?_|refine Aa.step_set ?_ (by simp <;>omega) _|refine jE ?_ (by assumption))))) ((go_at_call 76;refine (FS _ 5 _ _ [u,a,c,0,m] _ rfl (by decide) Of (by intro t F;match t,F with|0,_=>simp|1,_=>simp|2,_=>simp|3,_=>simp|4,_=>simp) (Aj.five q L n ⟨by decide,by decide⟩ ⟨by omega,by omega⟩)).mono ?_;rintro e U ⟨z,rfl,G,H⟩))
     all_goals
      go_wp2_with fail;go_meet
      case rel=>exact ⟨z,rfl,by omega,by (repeat (first|exact jD _|assumption|refine jA ?_|refine jB ?_|refine jC ?_|refine Aa.step_set ?_ (by simp <;>omega) _|refine jE ?_ (by assumption)))⟩
    case rest=>
     obtain ⟨z,rfl,H,V⟩:=hcut;go_wp2_with fail;refine (D3 _ _ (by rw [jY,show (({data:=#[81]}:ByteArray)).size=1 from rfl];omega)).mono ?_;rintro e W ⟨t,rfl,I, -⟩;go_wp2;go_ret;exact ⟨_,rfl,by (repeat (first|exact jD _|assumption|refine jA ?_|refine jB ?_|refine jC ?_|refine Aa.step_set ?_ (by simp <;>omega) _|refine jE ?_ (by assumption))),trivial⟩
def Yq (w:World) (e:Ending) (w':World):Prop:=∃(s:ByteArray) (x y:Int),e= .returned (.tuple #[.string s,.agg #[.int .i64 x,.int .i64 y]])/\Aa w w'/\Af x/\Af y
theorem Bx.set {w a:World} {b:List Value} (h:Bx w b a) {p:Addr} (c:w.heap.size<=p.block) {z:Int} (d:Af z):Bx w b (a.setCell p (.int .i64 z)):=⟨h.1.step_set c _,fun v f=>(h.2 v f).set p d⟩
theorem BM.new' {B n:Nat} {w:World} (a:n=w.heap.size) (h:B<=n) {x y:Int} (b:Af x) (c:Af y) (t:TypeId):BM B (w.alloc (.cells #[.int .i64 x,.int .i64 y] t)) (.pointer (some ⟨n,0,none⟩)):=by
 subst a;exact BM.new h b c t
theorem Bx.sub {w a:World} {b us:List Value} (h:Bx w b a) (k:∀v∈us,v∈b):Bx w us a:=⟨h.1,fun v c=>h.2 v (k v c)⟩
theorem M2 (p:Nat) (c:Ac) (P:Int) (B:List BK) (E:List EN) (u y:Int) (w:World) (h:Bz w p c P B E) (hE:E.length<=140000) (hI:∀x∈E,Af x.2.1/\Af x.2.2) (Q:Af u) (R:Af y):
  Calls Tryz.prog 115 #[.pointer (some ⟨p,0,none⟩),.agg #[.int .i64 u,.int .i64 y]] w (Yq w):=by
 obtain ⟨vB,vE,_,_,_,S,_,T⟩:=h;have al:p<w.heap.size:=World.block_lt_of_cell? w ⟨p,8,none⟩ S;obtain ⟨ao,cap,rfl,hc⟩:=T.off;go_enter Tryz.func115,Tryz.ntmps115;go_wp2;go_loopg [6,8] E.length (fun r b i wr=>∃(s:ByteArray) (k:Nat),k<=E.length/\r=E.length - k/\b= .string s/\i= .int .i64 k/\Bx w [.pointer (some ⟨w.heap.size,0,none⟩),.pointer (some ⟨w.heap.size+1,0,none⟩),.pointer (some ⟨w.heap.size+1+1,0,none⟩)] wr)
 case atStart=>
  refine ⟨_,0,by omega,by omega,rfl,rfl,by (repeat (first|exact jD _|assumption|refine jA ?_|refine jB ?_|refine jC ?_|refine Aa.step_set ?_ (by simp <;>omega) _|refine jE ?_ (by assumption))),?_⟩;have b3:BM w.heap.size (((w.alloc (.cells #[.int .i64 u,.int .i64 y] 144)).alloc (.cells #[.int .i64 0,.int .i64 0] 144)).alloc (.cells #[.int .i64 0,.int .i64 0] 144)) (.pointer (some ⟨w.heap.size,0,none⟩)):=(BM.new (jH _) Q R 144).later (by (repeat (first|exact jD _|assumption|refine jA ?_|refine jB ?_|refine jC ?_|refine Aa.step_set ?_ (by simp <;>omega) _|refine jE ?_ (by assumption))));have b5:BM w.heap.size (((w.alloc (.cells #[.int .i64 u,.int .i64 y] 144)).alloc (.cells #[.int .i64 0,.int .i64 0] 144)).alloc (.cells #[.int .i64 0,.int .i64 0] 144)) (.pointer (some ⟨w.heap.size+1,0,none⟩)):=(BM.new' (w:=w.alloc (.cells #[.int .i64 u,.int .i64 y] 144)) (by simp) (by omega) Cd Cd 144).later (by (repeat (first|exact jD _|assumption|refine jA ?_|refine jB ?_|refine jC ?_|refine Aa.step_set ?_ (by simp <;>omega) _|refine jE ?_ (by assumption))));have b7:BM w.heap.size (((w.alloc (.cells #[.int .i64 u,.int .i64 y] 144)).alloc (.cells #[.int .i64 0,.int .i64 0] 144)).alloc (.cells #[.int .i64 0,.int .i64 0] 144)) (.pointer (some ⟨w.heap.size+1+1,0,none⟩)):=BM.new' (by simp) (by omega) Cd Cd 144;intro v N;simp only [ja,List.not_mem_nil,or_false] at N;rcases N with rfl|rfl|rfl
  .exact b3
  .exact b5
  .exact b7
 case round=>
  obtain ⟨s,k,hk,hr,rfl,rfl,a⟩:=hrel;have d8:=a.1.cell S;by_cases z:k<E.length
  .obtain ⟨g,l,rfl,q0,q1,q2⟩:=hc k z;have O:=a.1.cell q0;have U:=a.1.cell q1;have V:=a.1.cell q2;obtain ⟨A,C⟩:=hI _ (jJ z);clear hc hI q0 q1 q2;generalize E[k]=en at *;obtain ⟨id,W,X⟩:=en;simp only at O U V A C;go_upto_region 6 with fail
   go_cut [9] (fun u9 wc=>Bx w [u9,.pointer (some ⟨w.heap.size,0,none⟩),.pointer (some ⟨w.heap.size+1,0,none⟩),.pointer (some ⟨w.heap.size+1+1,0,none⟩)] wc/\wc.cell? ⟨g,l+k * 3,none⟩=some (.string id))
   case first=>
    obtain ⟨p3,x3,y3,E3,am,Y,Z,an,ap,aa,ab⟩:=a.2 (.pointer (some ⟨w.heap.size,0,none⟩)) (by simp);simp only [Value.pointer.injEq,Option.some.injEq,Addr.mk.injEq,and_true] at E3;subst E3;go_region_held3 (fun w'=>Aa wr w'/\w'.cell? ⟨p,8,none⟩=some (.slice (some ⟨g,l,none⟩) E.length cap)/\w'.cell? ⟨g,l+k * 3+1,none⟩=some (.int .i64 W)/\w'.cell? ⟨g,l+k * 3+2,none⟩=some (.int .i64 X)/\w'.cell? ⟨w.heap.size,0,none⟩=some (.int .i64 x3)/\w'.cell? ⟨w.heap.size,1,none⟩=some (.int .i64 y3)) ((refine K8 ?_ d8 U V Y Z;(repeat (first|exact jD _|assumption|refine jA ?_|refine jB ?_|refine jC ?_|refine Aa.step_set ?_ (by simp <;>omega) _|refine jE ?_ (by assumption))))) ((go_at_call 169;refine (Vz _ _ _ _ _ A C aa ab).mono ?_;rintro e w2 ⟨z0,z1,rfl,ac,k0,k1, -⟩;obtain ⟨D,F⟩:=ac.cells))
    all_goals
     go_wp2_with fail;go_meet
     case rel=>
      have G:Aa wr w2:=by (repeat (first|exact jD _|assumption|refine jA ?_|refine jB ?_|refine jC ?_|refine Aa.step_set ?_ (by simp <;>omega) _|refine jE ?_ (by assumption)))
      have hw:=(a.1.trans G).size;have n:=a.1.size
      first
       |exact ⟨((a.later G).later (Aa.step_alloc (jD _) _)).cons (BM.new hw k0 k1 _),(G.trans (Aa.step_alloc (jD _) _)).cell O⟩
       |exact ⟨(((a.later G).set (p:=⟨wr.heap.size,0,none⟩) n k0).set (p:=⟨wr.heap.size,1,none⟩) n k1).cons (BM.stored n ((D _ _ (by simp)).trans (by simp;rfl)) ((D _ _ (by simp)).trans (by simp;rfl)) ((F _ _ (by simp)).trans (by simp)) ((F _ _ (by simp)).trans (by simp)) k0 k1),((G.step_set (p:=⟨wr.heap.size,0,none⟩) (jH _) _).step_set (p:=⟨wr.heap.size,1,none⟩) (jH _) _).cell O⟩
   case rest=>
    obtain ⟨f,ad⟩:=hcut;obtain ⟨p9,x9,y9,E9,aq,ae,af,ar,au,ag,ah⟩:=f.2 u9 (by simp);subst E9;obtain ⟨p7,x7,y7,H,o,q,t,I,J,K,L⟩:=f.2 (.pointer (some ⟨w.heap.size+1+1,0,none⟩)) (by simp);simp only [Value.pointer.injEq,Option.some.injEq,Addr.mk.injEq,and_true] at H;subst H;have e8:=f.1.cell S;clear O U V d8;go_wp2_with fail;refine (LR _ _ _ _ _).mono ?_;rintro e w3 ⟨AO,rfl,d, -⟩;have av:=d.cell ae;have aw:=d.cell af;have ax:=d.cell q;have ay:=d.cell t;have az:=d.frozen q I;have a0:=d.frozen t J;have g8:=d.cell e8;have ak:=d.cell ad;have m:=(f.later d).sub (us:=[.pointer (some ⟨w.heap.size,0,none⟩),.pointer (some ⟨w.heap.size+1,0,none⟩),.pointer (some ⟨w.heap.size+1+1,0,none⟩)]) (fun v N=>jW _ N);cases a1:((k:Int)==0)<;>cases AO
    all_goals
     go_wp2_with fail;go_roundg (E.length - (k+1))
     case measure=>omega
     case rel=>first|exact ⟨_,k+1,by omega,rfl,rfl,by go_num,m⟩|exact ⟨_,k+1,by omega,rfl,rfl,by go_num,(m.set (p:=⟨w.heap.size+1+1,0,none⟩) o ag).set (p:=⟨w.heap.size+1+1,1,none⟩) o ah⟩
  .obtain ⟨p7,x7,y7,H,o,q,t,I,J,K,L⟩:=a.2 (.pointer (some ⟨w.heap.size+1+1,0,none⟩)) (by simp);simp only [Value.pointer.injEq,Option.some.injEq,Addr.mk.injEq,and_true] at H;subst H;obtain ⟨p5,x5,y5,E5,M,ai,aj,a2,a3,a4,a5⟩:=a.2 (.pointer (some ⟨w.heap.size+1,0,none⟩)) (by simp);simp only [Value.pointer.injEq,Option.some.injEq,Addr.mk.injEq,and_true] at E5;subst E5;go_wp2_with fail;go_region
   all_goals
    go_wp2;refine bodyPost_ret (v:= .tuple #[.string s,.agg #[.int .i64 x7,.int .i64 y7]]) (by simp [results,Tryz.results115,go_sem,ai,aj]) rfl ⟨s,x7,y7,rfl,?_,K,L⟩;exact ((a.1.step_drew).step_set (p:=⟨w.heap.size+1,0,none⟩) M _).step_set (p:=⟨w.heap.size+1,1,none⟩) M _
def Qh (w:World) (e:Ending) (w':World):Prop:=∃(s:ByteArray) (n:Int),e= .returned (.tuple #[.string s,.int .i64 n])/\Aa w w'
def Gg (E:List EN) (j:Nat):ByteArray:=(E[j]?.map (·.1)).getD ByteArray.empty
theorem Eb.ids {w:World} {c:Option Addr} {cap:Nat} {E:List EN} (d:∀j (h:j<E.length),∃g a,c=some ⟨g,a,none⟩/\w.cell? ⟨g,a+j * 3,none⟩=some (.string E[j].1)/\w.cell? ⟨g,a+j * 3+1,none⟩=some (.int .i64 E[j].2.1)/\w.cell? ⟨g,a+j * 3+2,none⟩=some (.int .i64 E[j].2.2)) (l:1<=E.length) (_:cap=cap):
  ∃g a,c=some ⟨g,a,none⟩/\∀j,j<E.length->w.cell? ⟨g,a+j * 3,none⟩=some (.string (Gg E j)):=by
 obtain ⟨g,a,f,_⟩:=d 0 l;refine ⟨g,a,f,fun j i=>?_⟩;obtain ⟨n,k,b,m,_⟩:=d j i;rw [f] at b;simp only [Option.some.injEq,Addr.mk.injEq,and_true] at b;obtain ⟨rfl,rfl⟩:=b;simpa [Gg,i] using m
theorem NK {w w':World} {b c d f:Addr} {i k l m:Value} {g a n:Nat} {E:List EN} (h:Aa w w') (o:w.cell? b=some i) (p:w.cell? c=some k) (q:w.cell? d=some l) (r:w.cell? f=some m) (s:∀j,j<n->w.cell? ⟨g,a+j * 3,none⟩=some (.string (Gg E j))):
  Aa w w'/\w'.cell? b=some i/\w'.cell? c=some k/\w'.cell? d=some l/\w'.cell? f=some m/\∀j,j<n->w'.cell? ⟨g,a+j * 3,none⟩=some (.string (Gg E j)):=⟨h,h.cell o,h.cell p,h.cell q,h.cell r,fun j t=>h.cell (s j t)⟩
theorem Ys (p:Nat) (c:Ac) (u:Int) (B:List BK) (E:List EN) (key:ByteArray) (w:World) (h:Bz w p c u B E) (aa:Dh c u B E) (hI:∀x∈E,Af x.2.1/\Af x.2.2) (al:key.size<=1099511627000):
  Calls Tryz.prog 69 #[.pointer (some ⟨p,0,none⟩),.string key] w (Qh w):=by
 have h0:=h;obtain ⟨vB,vE,⟨c0,c1,c2,c3,c4,c5⟩,c6,c7,c8,az,ab⟩:=h;obtain ⟨hc,hg,hB,hE,a0,z⟩:=aa;obtain ⟨k1,k2,k3,k4, -,k5,k6,k7,k8,X, -, -⟩:=hc;obtain ⟨ao,cap,rfl,ac⟩:=ab.off;obtain ⟨alg,f,Y,d,l,M⟩:=c;simp only at c0 c1 c2 c3 c4 c5 k1 k2 k3 k4 k5 k6 k7 k8 X z;by_cases I:E=[]
 .subst I;go_enter Tryz.func69,Tryz.ntmps69;go_wp2;go_ret2;exact ⟨_,_,rfl,by (repeat (first|exact jD _|assumption|refine jA ?_|refine jB ?_|refine jC ?_|refine Aa.step_set ?_ (by simp <;>omega) _|refine jE ?_ (by assumption)))⟩
 .have ad:1<=E.length:=by
   rcases Nat.lt_or_ge 0 E.length with h|h
   .exact h
   .exact absurd (jS (by omega)) I
  have am:((E.length:Int)==0)=false:=by rw [jI];omega
  by_cases A:alg=2
  .subst A
   go_enter Tryz.func69,Tryz.ntmps69
   go_wp2_with fail
   refine (F2 l _ _ X (by rw [jY,show (({data:=#[107]}:ByteArray)).size=1 from rfl];omega)).mono ?_
   rintro e t ⟨x,y,rfl,J,N,O, -⟩
   go_wp2_with fail
   refine (M2 p _ u B E x y _ (h0.later (by (repeat (first|exact jD _|assumption|refine jA ?_|refine jB ?_|refine jC ?_|refine Aa.step_set ?_ (by simp <;>omega) _|refine jE ?_ (by assumption))))) hE hI N O).mono ?_
   rintro e Z ⟨s,x2,y2,rfl,ae, -, -⟩
   go_wp2
   go_ret2
   exact ⟨_,_,rfl,by (repeat (first|exact jD _|assumption|refine jA ?_|refine jB ?_|refine jC ?_|refine Aa.step_set ?_ (by simp <;>omega) _|refine jE ?_ (by assumption)))⟩
  .by_cases K:alg=4
   .subst K
    clear z
    go_enter Tryz.func69,Tryz.ntmps69
    go_wp2_with fail
    go_loopg [9,11] d.toNat (fun r b i wr=>∃(s:ByteArray) (k:Nat),r=d.toNat - k/\(k:Int)<=d/\b= .string s/\i= .int .i64 k/\Bx w [.pointer (some ⟨w.heap.size,0,none⟩)] wr)
    case atStart=>exact ⟨_,0,by omega,by omega,rfl,rfl,by (repeat (first|exact jD _|assumption|refine jA ?_|refine jB ?_|refine jC ?_|refine Aa.step_set ?_ (by simp <;>omega) _|refine jE ?_ (by assumption))),fun v hv=>by (simp only [ja,List.not_mem_nil,or_false] at hv;subst hv;exact BM.new (jH _) Cd Cd _)⟩
    case round=>
     obtain ⟨s,k,hr,a1,rfl,rfl,n⟩:=hrel
     have d3:=n.1.cell c3
     have d4:=n.1.cell c4
     by_cases a2:(k:Int)<d
     .go_wp2_with fail
      refine (FM _ _ _ (by omega) (by omega) (by decide) (by decide)).mono ?_
      rintro e t ⟨a,rfl,J,ha⟩
      have A:a.size=2:=by simpa using ha
      clear ha
      have e4:=J.cell d4
      go_wp2_with fail
      refine (F2 l _ _ X (by simp only [jY,show (({data:=#[112]}:ByteArray)).size=1 from rfl];omega)).mono ?_
      rintro e Z ⟨x,y,rfl,ae,N,O, -⟩
      have a3:Aa wr Z:=by (repeat (first|exact jD _|assumption|refine jA ?_|refine jB ?_|refine jC ?_|refine Aa.step_set ?_ (by simp <;>omega) _|refine jE ?_ (by assumption)))
      go_wp2_with fail
      refine (M2 p _ u B E x y _ (h0.later (n.1.trans (by (repeat (first|exact jD _|assumption|refine jA ?_|refine jB ?_|refine jC ?_|refine Aa.step_set ?_ (by simp <;>omega) _|refine jE ?_ (by assumption)))))) hE hI N O).mono ?_
      rintro e L ⟨s2,x2,y2,rfl,af,ag,ah⟩
      have ai:Aa wr L:=by (repeat (first|exact jD _|assumption|refine jA ?_|refine jB ?_|refine jC ?_|refine Aa.step_set ?_ (by simp <;>omega) _|refine jE ?_ (by assumption)))
      have D:=n.later ai
      obtain ⟨a4,a5,a6,P,F,o,G,Q,R,an,ap⟩:=D.2 (.pointer (some ⟨w.heap.size,0,none⟩)) (by simp)
      simp only [Value.pointer.injEq,Option.some.injEq,Addr.mk.injEq,and_true] at P
      subst P
      have aq:w.heap.size<L.heap.size:=World.block_lt_of_cell? L ⟨w.heap.size,0,none⟩ o
      go_wp2_with fail
      refine (LR _ _ _ _ _).mono ?_
      rintro e w4 ⟨AO,rfl,S, -⟩
      have q:Aa L w4:=by (repeat (first|exact jD _|assumption|refine jA ?_|refine jB ?_|refine jC ?_|refine Aa.step_set ?_ (by simp <;>omega) _|refine jE ?_ (by assumption)))
      have ar:=q.cell o
      have au:=q.cell G
      have av:=q.frozen o Q
      have aw:=q.frozen G R
      have q0:w4.cell? ⟨L.heap.size,0,none⟩=some (.int .i64 x2):=S.cell (by simp)
      have q1:w4.cell? ⟨L.heap.size,1,none⟩=some (.int .i64 y2):=S.cell (by simp)
      have H:=D.later q
      cases a7:((k:Int)==0)<;>cases AO
      all_goals
       go_wp2_with fail
       go_roundg (d.toNat - (k+1))
       case measure=>omega
       case rel=>first|exact ⟨_,k+1,rfl,by omega,rfl,by go_num,H⟩|exact ⟨_,k+1,rfl,by omega,rfl,by go_num,(H.set (p:=⟨w.heap.size,0,none⟩) F ag).set (p:=⟨w.heap.size,1,none⟩) F ah⟩
     .go_wp2
      go_ret2
      exact ⟨_,_,rfl,n.1⟩
   .have T:(E.length:Int)=f:=by
     rcases z (fun h=>by rcases h with h|h;exact A h;exact K h) with h|h
     .exact absurd h I
     .exact h
    have ax:(alg==2)=false:=by simpa using A
    have ay:(alg==4)=false:=by simpa using K
    obtain ⟨g,U,rfl,V⟩:=Eb.ids (cap:=cap) ac ad rfl
    have aj:Hid ((E.length:Int)=f):=T
    clear T z
    go_enter Tryz.func69,Tryz.ntmps69
    go_wp2_with fail
    refine (F2 l _ _ X (by rw [jY,show (({data:=#[107]}:ByteArray)).size=1 from rfl];omega)).mono ?_
    rintro e t ⟨x,y,rfl,J,N,O, -⟩
    have C:Aa w (t.alloc (.cells #[.int .i64 x,.int .i64 y] 144)):=by (repeat (first|exact jD _|assumption|refine jA ?_|refine jB ?_|refine jC ?_|refine Aa.step_set ?_ (by simp <;>omega) _|refine jE ?_ (by assumption)))
    have d8:=C.cell c8
    have d1:=C.cell c1
    have W:=fun j hj=>C.cell (V j hj)
    have q0:(t.alloc (.cells #[.int .i64 x,.int .i64 y] 144)).cell? ⟨t.heap.size,0,none⟩=some (.int .i64 x):=by simp
    have q1:(t.alloc (.cells #[.int .i64 x,.int .i64 y] 144)).cell? ⟨t.heap.size,1,none⟩=some (.int .i64 y):=by simp
    go_upto_region 23 with fail
    generalize (t.alloc (.cells #[.int .i64 x,.int .i64 y] 144))=Z at *
    go_region_held3 (fun w'=>Aa Z w'/\w'.cell? ⟨p,8,none⟩=some (.slice (some ⟨g,U,none⟩) E.length cap)/\w'.cell? ⟨p,1,none⟩=some (.int .i64 f)/\w'.cell? ⟨t.heap.size,0,none⟩=some (.int .i64 x)/\w'.cell? ⟨t.heap.size,1,none⟩=some (.int .i64 y)/\∀j,j<E.length->w'.cell? ⟨g,U+j * 3,none⟩=some (.string (Gg E j))) ((refine NK ?_ d8 d1 q0 q1 W;(repeat (first|exact jD _|assumption|refine jA ?_|refine jB ?_|refine jC ?_|refine Aa.step_set ?_ (by simp <;>omega) _|refine jE ?_ (by assumption))))) ((go_at_call 117;refine (QS _ _ _ _ N O (by omega) (by omega)).mono ?_;rintro e L ⟨r,rfl,af,ak,a8⟩;obtain ⟨m,rfl⟩:=jM ak;have hm:m<E.length:=(by have:=aj.out;omega)))
    all_goals
     go_wp2
     go_ret2
     exact ⟨_,_,rfl,C.trans (by (repeat (first|exact jD _|assumption|refine jA ?_|refine jB ?_|refine jC ?_|refine Aa.step_set ?_ (by simp <;>omega) _|refine jE ?_ (by assumption))))⟩
theorem Tryz.uE:Tryz.prog.underlying 146=some (.struct (Tryz.prog.fieldsOf 146)):=by kernel_rfl
theorem Tryz.sE:Tryz.prog.stoodInHeld 146=false:=by kernel_rfl
theorem Od (w:World) (a b:ByteArray) (x y u v:Int):(binOp .eql 146 (.agg #[.string a,.int .i64 x,.int .i64 y]) (.agg #[.string b,.int .i64 u,.int .i64 v])).run Tryz.prog w= .ok (.bool (a.toList==b.toList && (x==u && y==v))) w:=by
 rw [run_eql_struct,run_equalIn_struct w 9999 _ _ _ Tryz.uE Tryz.sE];simp [go_sem];by_cases c:a.toList=b.toList <;>by_cases d:x=u <;>by_cases f:y=v <;>simp [c,d,f]
def SR (w:World) (a b:Nat) (e:Ending) (w':World):Prop:=∃n m:Nat,e= .returned (.tuple #[.int .i64 n,.int .i64 m])/\Aa w w'/\n+m<=a/\n+m<=b
theorem Xp (W X:Value) (A B:List EN) (w:World) (ha:Eb w W A) (hb:Eb w X B) (aa:A.length<=140000) (ab:B.length<=140000):
  Calls Tryz.prog 106 #[W,X] w (SR w A.length B.length):=by
 obtain ⟨ac,Y,rfl,d⟩:=ha;obtain ⟨ad,Z,rfl,f⟩:=hb;go_enter Tryz.func106,Tryz.ntmps106;go_wp2;go_loopg [6] A.length (fun r n wr=>Aa w wr/\∃k:Nat,r=A.length - k/\k<=A.length/\k<=B.length/\n= .int .i64 k)
 case atStart=>exact ⟨jD _,0,jo,jo,jo,rfl⟩
 case round=>
  obtain ⟨b,k,hr,ae,af,rfl⟩:=hrel;go_upto_region 2 with fail
  go_cut [28] (fun v wc=>Aa w wc/\∃x,v= .bool x/\(x=true->k<A.length/\k<B.length))
  case first=>
   by_cases K:(k:Int)<A.length
   .by_cases L:(k:Int)<B.length
    .obtain ⟨gA,u,rfl,y,z,C⟩:=d k jo;obtain ⟨gB,D,rfl,E,F,G⟩:=f k jo;have g:=b.cell y;have i:=b.cell z;have l:=b.cell C;have o:=b.cell E;have p:=b.cell F;have s:=b.cell G;clear d f y z C E F G;generalize A[k]=M at *;generalize B[k]=N at *;obtain ⟨O,P,Q⟩:=M;obtain ⟨R,S,T⟩:=N;simp only at g i l o p s;have H:=Od;go_quiet (fail);go_wp2_with fail
     all_goals
      go_meet
      case rel=>exact ⟨jq,_,rfl,fun _=>⟨jo,jo⟩⟩
    .have U:decide ((k:Int)<B.length)=false:=jK L;go_quiet (fail);go_wp2_with fail;go_meet
     case rel=>exact ⟨jq,_,rfl,fun h=>by cases h⟩
   .have V:decide ((k:Int)<A.length)=false:=jK K;go_quiet (fail);go_wp2_with fail;go_meet
    case rel=>exact ⟨jq,_,rfl,fun h=>by cases h⟩
  case rest=>
   obtain ⟨I,x,rfl,t⟩:=hcut;cases x
   .clear t;go_wp2_with fail;go_loopg [7] A.length (fun r m wr=>Aa w wr/\∃q:Nat,r=A.length - q/\k+q<=A.length/\k+q<=B.length/\m= .int .i64 q)
    case atStart=>exact ⟨I,0,jo,jo,jo,rfl⟩
    case round=>
     obtain ⟨c,q,ag,ah,ai,rfl⟩:=hrel;go_upto_region 5 with fail
     go_cut [63] (fun v wc=>Aa w wc/\∃x,v= .bool x/\(x=true->k+q<A.length/\k+q<B.length))
     case first=>
      by_cases K:(q:Int)<A.length - (k:Int)
      .by_cases L:(q:Int)<B.length - (k:Int)
       .obtain ⟨gA,u,rfl,y,z,C⟩:=d (A.length - 1 - q) jo;obtain ⟨gB,D,rfl,E,F,G⟩:=f (B.length - 1 - q) jo;have g:=c.cell y;have i:=c.cell z;have l:=c.cell C;have o:=c.cell E;have p:=c.cell F;have s:=c.cell G;have aj:A.length - 1 - q<A.length:=jo
        have ak:B.length - 1 - q<B.length:=jo
        clear d f y z C E F G;generalize A[A.length - 1 - q]=M at *;generalize B[B.length - 1 - q]=N at *;obtain ⟨O,P,Q⟩:=M;obtain ⟨R,S,T⟩:=N;simp only at g i l o p s;have H:=Od;go_quiet (fail);go_wp2_with fail
        all_goals
         go_meet
         case rel=>exact ⟨jq,_,rfl,fun _=>⟨jo,jo⟩⟩
       .have U:decide ((q:Int)<B.length - (k:Int))=false:=jK L;go_quiet (fail);go_wp2_with fail;go_meet
        case rel=>exact ⟨jq,_,rfl,fun h=>by cases h⟩
      .have V:decide ((q:Int)<A.length - (k:Int))=false:=jK K;go_quiet (fail);go_wp2_with fail;go_meet
       case rel=>exact ⟨jq,_,rfl,fun h=>by cases h⟩
     case rest=>
      obtain ⟨J,x,rfl,t⟩:=hcut;cases x
      .go_wp2;go_ret2;exact ⟨k,q,rfl,J,jo,jo⟩
      .have a:Hid (k+q<A.length/\k+q<B.length):=t rfl;clear t;go_wp2_with fail;go_roundg (A.length - (q+1))
       case measure=>have:=a.out;omega
       case rel=>exact ⟨J,q+1,rfl,by have:=a.out;omega,by have:=a.out;omega,by go_num⟩
   .have a:Hid (k<A.length/\k<B.length):=t rfl;clear t;go_wp2_with fail;go_roundg (A.length - (k+1))
    case measure=>have:=a.out;omega
    case rel=>exact ⟨I,k+1,rfl,by have:=a.out;omega,by have:=a.out;omega,by go_num⟩
theorem SV:GP ⟨#[52,52,52]⟩:=IH [52,52,52] ji
theorem RI:GP ⟨#[50,50,50]⟩:=IH [50,50,50] ji
def J1 (ao:Option Addr) (_L cap n h:Nat):Value:= .slice (if cap=n then ao else ao.map (·.add (n * 3))) (h - n) (cap - n)
theorem SE (a:World) (b:Option Addr) (L cap n m:Nat) (h:n+m<=L) (f:L<=cap):
  (Instr.slice 83 (.slice b L cap) (some (.int .i64 n)) (some (.int .i64 ((L:Int) - (m:Int)))) none).run Tryz.prog a= .ok (J1 b L cap n (L - m)) a:=by
 rw [run_slice_lh (P:=Tryz.prog) a 83 b L cap (by kernel_rfl) .i64 .i64 _ _ jo jo jo];have c:((L:Int) - (m:Int)).toNat=L - m:=jo
 have d:(sizeOf (Tryz.prog.elem 83)).run Tryz.prog a= .ok 3 a:=by kernel_rfl
 rw [d];simp only [Result.andThen,sliced,J1,Int.toNat_natCast,c]
theorem Eb.cut {w:World} {f:Option Addr} {cap n m:Nat} {E:List EN} (h:Eb w (.slice f E.length cap) E) (o:n+m<=E.length) (v:E.length<=cap):Eb w (J1 f E.length cap n (E.length - m)) ((E.drop n).take (E.length - m - n)):=by
 obtain ⟨p,i,k,b⟩:=h;simp only [Value.slice.injEq] at k;obtain ⟨rfl, -,rfl⟩:=k;have c:((E.drop n).take (E.length - m - n)).length=E.length - m - n:=jx
 refine ⟨_,_,by rw [J1,c],fun j l=>?_⟩;rw [c] at l;obtain ⟨g,a,q,r,s,t⟩:=b (n+j) jo;have d:¬cap=n:=jo
 have e:((E.drop n).take (E.length - m - n))[j]'(by rw [c];exact l)=E[n+j]'jo:=js
 rw [e];refine ⟨g,a+n * 3,?_,?_,?_,?_⟩
 .rw [if_neg d,q];simp only [Option.map_some,Addr.add];split
  .rename_i u;rw [u];rfl
  .rfl
 .rw [show a+n * 3+j * 3=a+(n+j) * 3 by omega];exact r
 .rw [show a+n * 3+j * 3+1=a+(n+j) * 3+1 by omega];exact s
 .rw [show a+n * 3+j * 3+2=a+(n+j) * 3+2 by omega];exact t
theorem Wo (s q:Nat) (K L:Ac) (u v:Int) (M H:List BK) (r a:List EN) (w:World) (hA:Bz w s K u M r) (l:Dh K u M r) (y:∀x∈r,Af x.2.1/\Af x.2.2) (hB:Bz w q L v H a) (b:Dh L v H a) (A:∀x∈a,Af x.2.1/\Af x.2.2):
  Calls Tryz.prog 57 #[.pointer (some ⟨s,0,none⟩),.pointer (some ⟨q,0,none⟩)] w (En w Kz):=by
 have N:=hA;have O:=hB;obtain ⟨aq,B,_,a6,a7,a8,aj,C⟩:=hA;obtain ⟨P,D,_,b6,b7,Q,E,c⟩:=hB;have R:=l.2.2.2.1;have S:=b.2.2.2.1;have T:=l.2.1;have U:=b.2.1;go_enter Tryz.func57,Tryz.ntmps57;go_upto_region 1 with fail
 go_cut [5,6] (fun v5 v6 wc=>∃n m:Nat,v5= .int .i64 n/\v6= .int .i64 m/\n+m<=r.length/\n+m<=a.length/\Aa w wc)
 case first=>
  go_region_held3 (fun w'=>Aa w w'/\w'.cell? ⟨s,8,none⟩=some B/\w'.cell? ⟨q,8,none⟩=some D) ((refine Jj ?_ a8 Q;(repeat (first|exact jD _|assumption|refine jA ?_|refine jB ?_|refine jC ?_|refine Aa.step_set ?_ (by simp <;>omega) _|refine jE ?_ (by assumption))))) ((go_at_call 106;refine (Xp B D r a _ (C.off.later (by (repeat (first|exact jD _|assumption|refine jA ?_|refine jB ?_|refine jC ?_|refine Aa.step_set ?_ (by simp <;>omega) _|refine jE ?_ (by assumption))))) (c.off.later (by (repeat (first|exact jD _|assumption|refine jA ?_|refine jB ?_|refine jC ?_|refine Aa.step_set ?_ (by simp <;>omega) _|refine jE ?_ (by assumption))))) R S).mono ?_;rintro e w4 ⟨n,m,rfl,V,hn,I⟩))
  all_goals
   go_wp2_with fail;go_meet
   case rel=>exact ⟨n,m,rfl,rfl,hn,I,by (repeat (first|exact jD _|assumption|refine jA ?_|refine jB ?_|refine jC ?_|refine Aa.step_set ?_ (by simp <;>omega) _|refine jE ?_ (by assumption)))⟩
 case rest=>
  obtain ⟨n,m,rfl,rfl,hn,I,hb⟩:=hcut;go_wp2_with fail;refine (Fw s K u M r 1 _ (N.later hb) l ⟨by decide,by decide⟩ (fun x k=>⟨(y x k).1.i64,(y x k).2.i64⟩)).mono ?_;rintro e w1 ⟨t,rfl,W,ar,au⟩;go_wp2_with fail;have hz:(t.extract 0 (t.size - 4)).size=t.size - 4:=by simp
  generalize t.extract 0 (t.size - 4)=tt at *;refine (L2 tt _ (by unfold maxLen;omega)).mono ?_;rintro e w2 ⟨cc,rfl,X,av,aw⟩;have o:=(hb.trans W).trans X;have q6:=o.cell a6;have r6:=o.cell b6;go_upto_region 4 with fail
  go_cut [9] (fun v9 wc=>∃z:ByteArray,v9= .string z/\z.size<=27/\Aa w2 wc)
  case first=>
   go_region_held3 (fun w'=>Aa w2 w'/\w'.cell? ⟨s,6,none⟩=some (.int .i64 u)/\w'.cell? ⟨q,6,none⟩=some (.int .i64 v)) ((refine Jj ?_ q6 r6;(repeat (first|exact jD _|assumption|refine jA ?_|refine jB ?_|refine jC ?_|refine Aa.step_set ?_ (by simp <;>omega) _|refine jE ?_ (by assumption))))) ((go_at_call 76;refine (FS _ 3 _ _ [u,cc,v] _ rfl (by decide) SV (by intro t Y;match t,Y with|0,_=>simp|1,_=>simp|2,_=>simp) (Aj.three T ⟨by omega,by omega⟩ U)).mono ?_;rintro e w4 ⟨z,rfl,V,hz⟩))
   all_goals
    go_wp2_with fail;go_meet
    case rel=>exact ⟨z,rfl,by omega,by (repeat (first|exact jD _|assumption|refine jA ?_|refine jB ?_|refine jC ?_|refine Aa.step_set ?_ (by simp <;>omega) _|refine jE ?_ (by assumption)))⟩
  case rest=>
   obtain ⟨z,rfl,ax,Z⟩:=hcut;have p:=o.trans Z;have s7:=p.cell b7;go_wp2_with fail;refine (Pu H P _ (E.later p) b.2.2.1).mono ?_;rintro e w3 ⟨nm,rfl,aa,F⟩;have ak:nm.size<=81:=F;clear F;have G:=p.trans aa;have s8:=G.cell Q;obtain ⟨J,cap,rfl,ab⟩:=c.off;go_wp2_with fail;refine (FS _ 3 _ _ [(n:Int),m,a.length - n - m] _ rfl (by decide) RI (by intro t Y;match t,Y with|0,_=>simp|1,_=>simp|2,_=>simp) (Aj.three ⟨by omega,by omega⟩ ⟨by omega,by omega⟩ ⟨by omega,by omega⟩)).mono ?_;rintro e w5 ⟨kk,rfl,ay,ac⟩;have i:Aa w w5:=G.trans (by (repeat (first|exact jD _|assumption|refine jA ?_|refine jB ?_|refine jC ?_|refine Aa.step_set ?_ (by simp <;>omega) _|refine jE ?_ (by assumption))));have t8:=i.cell Q;go_upto_region 7 with fail
   have d:a.length<=cap:=by
    rcases c.form with ⟨h1,h2⟩|⟨g,al,h1,h2,_⟩
    .simp [h2]
    .simp only [Value.slice.injEq] at h1;omega
   have ad:=fun wx=>SE wx J a.length cap n m I d
   have az:IntKind.i64.wrap ((a.length:Int) - (m:Int))=(a.length:Int) - (m:Int):=by rw [IntKind.wrap_i64];omega
   go_cut [12] (fun ae wc=>∃z:ByteArray,ae= .string z/\z.size<=3780000/\Aa w5 wc)
   case first=>
    have af:Eb w (.slice J a.length cap) a:=⟨J,cap,rfl,ab⟩;have hcut:=af.cut I d;have ag:((a.drop n).take (a.length - m - n)).length<=140000:=by simp;omega
    have f:∀x∈(a.drop n).take (a.length - m - n),x∈a:=fun x k=>List.mem_of_mem_drop (List.mem_of_mem_take k)
    go_region_held3 (fun w'=>Aa w5 w'/\w'.cell? ⟨q,8,none⟩=some (.slice J a.length cap)/\True) ((exact ⟨by (repeat (first|exact jD _|assumption|refine jA ?_|refine jB ?_|refine jC ?_|refine Aa.step_set ?_ (by simp <;>omega) _|refine jE ?_ (by assumption))),Aa.cell (by (repeat (first|exact jD _|assumption|refine jA ?_|refine jB ?_|refine jC ?_|refine Aa.step_set ?_ (by simp <;>omega) _|refine jE ?_ (by assumption)))) t8,trivial⟩)) ((go_at_call 103;refine (Ov q L v H a _ _ _ (O.later (i.trans (by (repeat (first|exact jD _|assumption|refine jA ?_|refine jB ?_|refine jC ?_|refine Aa.step_set ?_ (by simp <;>omega) _|refine jE ?_ (by assumption)))))) b.2.2.1.1 (hcut.later (i.trans (by (repeat (first|exact jD _|assumption|refine jA ?_|refine jB ?_|refine jC ?_|refine Aa.step_set ?_ (by simp <;>omega) _|refine jE ?_ (by assumption)))))) ag (fun x k=>⟨b.2.2.2.2.1 x (f x k),(A x (f x k)).1.i64,(A x (f x k)).2.i64⟩)).mono ?_;rintro e w6 ⟨z6,rfl,a0,ah⟩))
    all_goals
     go_wp2_with fail;go_meet
     case rel=>exact ⟨z6,rfl,by have h:=ah;omega,by (repeat (first|exact jD _|assumption|refine jA ?_|refine jB ?_|refine jC ?_|refine Aa.step_set ?_ (by simp <;>omega) _|refine jE ?_ (by assumption)))⟩
   case rest=>
    obtain ⟨ai,rfl,am,an⟩:=hcut;clear ad;go_wp2_with fail;have ap:kk.size<=27:=ac
    have a1:(({data:=#[67,80]}:ByteArray)++z++nm++kk++ai).size<=8990000:=by
     simp only [jY,show (({data:=#[67,80]}:ByteArray)).size=2 from rfl];omega
    refine (D3 _ _ (by omega)).mono ?_;rintro e w7 ⟨t7,rfl,a2, -⟩;go_wp2;go_ret;exact ⟨_,rfl,i.trans (by (repeat (first|exact jD _|assumption|refine jA ?_|refine jB ?_|refine jC ?_|refine Aa.step_set ?_ (by simp <;>omega) _|refine jE ?_ (by assumption)))),trivial⟩
end Go.Proofs.YtpapdkhjdelfcaaGreat
