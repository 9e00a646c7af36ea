import Derived.Test.YtpapdkhjdelfcaaGreatMAC
import Derived.Deep.AppendLies
namespace Go.Proofs.YtpapdkhjdelfcaaGreat
open Go.RowKit
set_option maxRecDepth 100000
set_option maxHeartbeats 4000000
def FR (l:List (Int×Int)):List Value:=l.flatMap fun b=>[.int .i64 b.1,.int .i64 b.2]
theorem TE (L:List (Int×Int)) (b:Int×Int):FR (L++[b])=FR L++[.int .i64 b.1,.int .i64 b.2]:=by simp [FR]
theorem N4 (l:List (Int×Int)) (j:Nat) (h:j<l.length):(FR l)[j * 2]?=some (.int .i64 l[j].1)/\(FR l)[j * 2+1]?=some (.int .i64 l[j].2):=by
 induction l generalizing j with
 |nil=>simp at h
 |cons b l ih=>
  cases j with
  |zero=>simp [FR]
  |succ j=>
   obtain ⟨a,c⟩:=ih j (by simpa using h);have d:(j+1) * 2=j * 2+1+1:=jo
   rw [d];simp only [FR,List.flatMap_cons,List.cons_append,List.nil_append,List.getElem?_cons_succ] at a c |-;exact ⟨a,c⟩
def FV (base:Nat) (w:jj) (v:ju) (B:List (Int×Int)):Prop:=w.ownsRow base 178 2 v B.length (FR B)
theorem FV.snoc {base:Nat} {w:jj} {v:ju} {L:List (Int×Int)} {b:Int×Int} {n:Nat} (h:w.ownsRow base 178 2 v n (FR L++[.int .i64 b.1,.int .i64 b.2])) (a:n=L.length+1):FV base w v (L++[b]):=by
 unfold FV;rw [TE,jO];subst a;exact h
def SO (w:jj) (L:List (Int×Int)) (e:Ending) (w':jj):Prop:=∃v,e= .returned v/\Aa w w'/\FV w.heap.size w' v L
theorem Kb (w:jj):IM w (.slice none 0 0) []:=Or.inl ⟨rfl,rfl,rfl⟩
theorem U3 (c:Ac) (B:List BK) (v:ju) (w:jj) (hP:Am w v B) (hB:AL B) (R:c.OK):
  Calls Tryz.prog 139 #[.agg c.cells,v] w (SO w (B.map (Cr c))):=by
 obtain ⟨i0,hi,J,K,M⟩:=info_parts Tryz.infoWay;obtain ⟨h8,N⟩:=hB;obtain ⟨ag,ah,ae⟩:3<=c.slots/\c.slots<=211/\c.key.size=16:=⟨R.2.2.1,R.2.2.2.1,R.2.2.2.2.2.2.2.2.2.1⟩;obtain ⟨ao,cap,rfl,l⟩:=hP.open;have hW:∀k (h:k<B.length),(B.take (k+1)).map (Cr c)=(B.take k).map (Cr c)++[Cr c B[k]]:=fun k h=>by rw [jQ h,List.map_append];rfl
 have hF:∀b:BK,Cr c b=(Cv (Al c.key 111 [] b.1) c.slots,Cv (Al c.key 115 [] b.1) (c.slots - 1)+1):=fun _=>rfl
 have HE:Hid ((B.take B.length).map (Cr c)=B.map (Cr c)):=by rw [List.take_length];rfl
 generalize Cr c=wy at *;obtain ⟨alg,d,y,z,key,s⟩:=c;simp only [Ac.cells] at *;clear R;go_enter Tryz.func139,Tryz.ntmps139;go_wp2_with (first|(at_make;refine wpList_make_own _ rfl _ _ 173 rfl (w.heap.size+1) 178 i0 (.agg #[.int .i64 0,.int .i64 0]) 2 Tryz.underlying173 hi J K _ _ _ B.length rfl rfl ?b1 ?b2 ?b3 ?b4 ?_))
 case b1=>rfl
 case b2=>rw [M];omega
 case b3=>unfold maxLen;omega
 case b4=>simp
 intro w1 t o;obtain ⟨q,p⟩:∃q,q=w.alloc (.cells #[.int .i64 alg,.int .i64 d,.int .i64 y,.int .i64 z,.string key,.int .i64 s] 30):=⟨_,rfl⟩;have O:Aa q w1:=by rw [p];exact (jD _).grown o (fun g P=>by cases P)
 have D:FV (w.heap.size+1) w1 (.slice (some ⟨w.heap.size+1,0,none⟩) 0 B.length) []:=t;have m1:q.cell? ⟨w.heap.size,1,none⟩=some (.int .i64 d):=by rw [p];simp
 have m4:q.cell? ⟨w.heap.size,4,none⟩=some (.string key):=by rw [p];simp
 have E:Aa w q:=by rw [p];exact (jD w).step_alloc _
 have ai:q.heap.size=w.heap.size+1:=by rw [p];simp
 clear o t p;generalize (Value.slice (some ⟨w.heap.size+1,0,none⟩) 0 B.length)=v1 at *;go_wp2;go_loopg [5,15] B.length (fun r vL n wr=>Aa q wr/\∃(k:Nat),r=B.length - k/\k<=B.length/\n= .int .i64 k/\FV (w.heap.size+1) wr vL ((B.take k).map wy))
 case atStart=>exact ⟨O,0,jo,jo,rfl,by simpa using D⟩
 case round=>
  obtain ⟨F,k,hr,hk,rfl,hL⟩:=hrel;have aj:=F.size;have ak:w.heap.size<wr.heap.size:=jo
  have al:((B.take k).map wy).length<=8:=jx
  have W:=jp hL;have X:=F.cell m1;have n4:=F.cell m4;clear O D hL;by_cases G:k<B.length
  .obtain ⟨g,rfl,c0,c1⟩:=l k G;have Y:=(E.trans F).cell c0;have Z:=(E.trans F).cell c1;have HS:=jp (hW k G);have aa:=(N _ (jJ G)).2.1;rw [hF] at HS;clear l c0 c1 hW hF;generalize B[k]=bk at *;obtain ⟨m,wk⟩:=bk;simp only at Y Z HS aa;have hO:=fun A=>F5 key 111 [] (.slice none 0 0) m A (Kb A) ji jo jo
   have hZ:=fun A=>F5 key 115 [] (.slice none 0 0) m A (Kb A) ji jo jo
   have rO:=He key 111 [] m;have rZ:=He key 115 [] m;generalize Al key 111 [] m=S at *;generalize Al key 115 [] m=T at *;generalize (B.take k).map wy=L at *;obtain ⟨am,an⟩:=rO;obtain ⟨ap,aq⟩:=rZ;go_wp2_with fail;refine (hO _).mono ?_;rintro e w2 ⟨rfl,H⟩;have C:Aa wr w2:=Aa.trans (Aa.step_alloc (jD wr) _) H;have b0:w2.cell? ⟨wr.heap.size,0,none⟩=some (.string m):=H.cell js;have q1:=C.cell X;have q4:=C.cell n4;clear H;go_wp2_with fail;refine (hZ _).mono ?_;rintro e U ⟨rfl,Q⟩;have f:Aa wr U:=C.trans Q;have s1:=f.cell X;have u:Aa q U:=F.trans f
   have I : Hid (FV (w.heap.size + 1) U u5 L) := World.ownsRow.kept W.out (row := none) ⟨f.below.os, f.below.tape, f.below.output, f.size, fun k hk _ => f.block k hk⟩ (by
     cases hv : u5.ownBlock
     . exact Or.inl rfl
     . exact Or.inr js)
   have ar:=u.size;clear hO hZ Q q1 q4 b0 X n4 C f W;go_wp2_with fail;have y1:=Kt S d jo;have y2:=Kt T (d - 1) jo;obtain ⟨au,av⟩:=y1;obtain ⟨aw,ax⟩:=y2;have ab:=fun A=>Kp S d A jo jo jo jo
   have ac:=fun A=>Kp T (d - 1) A jo jo jo jo
   generalize Cv S d=r1 at *;generalize Cv T (d - 1)=V at *;have ay:IntKind.i64.wrap (d - 1)=d - 1:=by rw [IntKind.wrap_i64];omega
   have af:IntKind.i64.wrap (V+1)=V+1:=by rw [IntKind.wrap_i64];omega
   go_region_held_law (fun w'=>Aa q w'/\w'.cell? ⟨w.heap.size,1,none⟩=some (.int .i64 d)) ((exact ⟨jq,Aa.cell (a:=q) jq m1⟩))
    ((first
      | (go_at_call_of 176 S; refine (ab _).mono ?_; rintro e w4 ⟨rfl, rfl⟩)
      | (go_at_call_of 176 T; refine (ac _).mono ?_; rintro e w4 ⟨rfl, rfl⟩)
      | (refine KB rfl (.tmp 29) (.tmp 41) 173 rfl (w.heap.size + 1) 178 i0 (.agg #[.int .i64 0, .int .i64 0]) 2 16 Tryz.underlying173 hi J K M rfl ji u5 L.length (FR L) (by simp [Act.eval]) (World.ownsRow.alloc I.out _) ⟨U.heap.size, 0, none⟩ 1 1 [.int .i64 r1, .int .i64 (V + 1)] (by simp [Act.eval]) rfl (C8 _ _ _ _ _ rfl) (Df rfl rfl) (by unfold maxLen; omega) jo (by simp; omega) ?_
         intro v5 w5 x i
         have ad : Aa q w5 := by
           first
           | exact ((u.step_drew).step_alloc _).grown i (fun g P => by have := (World.ownsRow.lt I.out g P).1; omega)
           | exact ((u.step_alloc _).step_drew).grown i (fun g P => by have := (World.ownsRow.lt I.out g P).1; omega)
         have H5 := jp (FV.snoc (b := (r1, V + 1)) x rfl)
         clear x i)))
   all_goals
    go_wp2;go_roundg (B.length - (k+1))
    case measure=>omega
    case rel=>exact ⟨ad,k+1,rfl,jo,by go_num,by rw [HS.out];exact H5.out⟩
  .clear l;go_wp2;go_ret;exact ⟨_,rfl,E.trans F,by have:=W.out;rw [show k=B.length by omega,HE.out] at this;exact World.ownsRow.mono this jo⟩
def BS (base:Nat) (w:jj) (v:ju) (L:List Int):Prop:=w.ownsRow base 3 1 v L.length (L.map (Value.int .i64))
theorem BS.row {base:Nat} {w:jj} {v:ju} {B:List Int} (h:BS base w v B):Hj w v B:=Ap.of_owns h
theorem BS.later {base:Nat} {w w':jj} {v:ju} {B:List Int} (h:BS base w v B) (k:Aa w w'):BS base w' v B:=
 World.ownsRow.kept h (row := none) ⟨k.below.os, k.below.tape, k.below.output, k.size, fun j a _ => k.block j a⟩ (by
   cases b : v.ownBlock
   . exact Or.inl rfl
   . exact Or.inr js)
theorem BS.snoc {base:Nat} {w:jj} {v:ju} {L:List Int} {b:Int} {n:Nat} (h:w.ownsRow base 3 1 v n (L.map (Value.int .i64)++[.int .i64 b])) (a:n=L.length+1):BS base w v (L++[b]):=by
 unfold BS;rw [List.map_append,jO];subst a;exact h
theorem Ir {base:Nat} {e:TypeId} {s:Nat} {w w':jj} {v:ju} {n:Nat} {b:List Value} {g:Nat} (h:w.ownsRow base e s v n b) (c:w.grownBy w' (some g)) (a:v.ownBlock≠some g):w'.ownsRow base e s v n b:=World.ownsRow.kept h c (Or.inr a)
def sl (g n cap:Nat):Value:= .slice (some ⟨g,0,none⟩) n cap
def Cj (base a b f g:Nat) (w:jj) (c d:List Int):Prop:=BS base w (sl a c.length f) c/\BS base w (sl b d.length g) d/\a≠b
theorem Cj.later {base a b c d:Nat} {w w':jj} {f g:List Int} (h:Cj base a b c d w f g) (k:Aa w w'):Cj base a b c d w' f g:=⟨h.1.later k,h.2.1.later k,h.2.2⟩
theorem Cj.app1 {base d f o k g cap:Nat} {w w':jj} {c l:List Int} {x:Int} {n:Nat} (h:Cj base d f o k w c l) (a:w'.ownsRow base 3 1 (.slice (some ⟨g,0,none⟩) n cap) n (c.map (Value.int .i64)++[.int .i64 x])) (m:n=c.length+1) (p:w.grownBy w' (some d)) (i:some d=some g\/w.heap.size<=g):Cj base g f cap k w' (c++[x]) l:=by
 refine ⟨?_,Ir h.2.1 p (fun e=>h.2.2 (by simpa [sl,Value.ownBlock] using e.symm)),?_⟩
 .have:=BS.snoc (b:=x) a m;rw [sl,jO];subst m;exact this
 .have q:=(World.ownsRow.lt h.2.1 f rfl).2;rcases i with e|e
  .simp at e;subst e;exact h.2.2
  .omega
theorem Cj.app2 {base d f k o g cap:Nat} {w w':jj} {l c:List Int} {x:Int} {n:Nat} (h:Cj base d f k o w l c) (a:w'.ownsRow base 3 1 (.slice (some ⟨g,0,none⟩) n cap) n (c.map (Value.int .i64)++[.int .i64 x])) (m:n=c.length+1) (p:w.grownBy w' (some f)) (i:some f=some g\/w.heap.size<=g):Cj base d g k cap w' l (c++[x]):=by
 refine ⟨Ir h.1 p (fun e=>h.2.2 (by simpa [sl,Value.ownBlock] using e)),?_,?_⟩
 .have:=BS.snoc (b:=x) a m;rw [sl,jO];subst m;exact this
 .have q:=(World.ownsRow.lt h.1 d rfl).2;rcases i with e|e
  .simp at e;subst e;exact h.2.2
  .omega
theorem Cj.set1 {base a b c d:Nat} {w:jj} {f g:List Int} (h:Cj base a b c d w f g) (j:Nat) (x:Int):Cj base a b c d (w.setCell ⟨a,j,none⟩ (.int .i64 x)) (f.set j x) g:=by
 have i:=World.ownsRow.stored h.1 j (.int .i64 x);refine ⟨?_,Ir h.2.1 i.2 (fun e=>h.2.2 (by simpa [sl,Value.ownBlock] using e.symm)),h.2.2⟩;unfold BS;rw [sl,List.length_set,List.map_set];exact i.1
theorem Cj.set2 {base b a c d:Nat} {w:jj} {f g:List Int} (h:Cj base b a c d w f g) (j:Nat) (x:Int):Cj base b a c d (w.setCell ⟨a,j,none⟩ (.int .i64 x)) f (g.set j x):=by
 have i:=World.ownsRow.stored h.2.1 j (.int .i64 x);refine ⟨Ir h.1 i.2 (fun e=>h.2.2 (by simpa [sl,Value.ownBlock] using e)),?_,h.2.2⟩;unfold BS;rw [sl,List.length_set,List.map_set];exact i.1
theorem Vm (R:List Int) (n:Nat): -1<=(A5 R n).1/\(A5 R n).1<n:=by
 induction n with
 |zero=>simp [A5]
 |succ n ih=>
  rw [A5];split
  .exact ⟨jv,jv⟩
  .omega
theorem Wg (R:List Int): -1<=C1 R/\C1 R<R.length:=Vm R R.length
def Nq (w:jj) (L:List Int) (e:Ending) (w':jj):Prop:=∃v,e= .returned v/\Aa w w'/\BS w.heap.size w' v L
theorem Ya (M:Int) (B:List BK) (v:ju) (w:jj) (hP:Am w v B) (hB:AL B) (bd:0<=M) (be:M<=300):
  Calls Tryz.prog 140 #[.int .i64 M,v] w (Nq w (CJ M B)):=by
 obtain ⟨i0,hi,K,L,N⟩:=info_parts Tryz.infoInt;have z:=fun wx hx=>Mx B v wx hx hB
 obtain ⟨h8,Y⟩:=hB;have bf:=Kq B (fun b hb=>(Y b hb).2.2) B.length;rw [List.take_length] at bf;obtain ⟨X,Z⟩:∃X,X=CJ M B:=⟨_,rfl⟩;rw [<-Z];rw [CJ,Bi,CF] at Z;generalize As B=T at *;by_cases hT:T<1
 .rw [if_pos hT] at Z;have HX:=jp Z;clear Z;go_enter Tryz.func140,Tryz.ntmps140;go_wp2_with fail;refine (z _ hP).mono ?_;rintro e w1 ⟨rfl,A⟩;go_wp2;go_ret;exact ⟨_,rfl,A,by rw [HX.out];exact World.ownsRow_nil _ _ _ _⟩
 rw [if_neg hT] at Z;have HX:=jp Z;clear Z;obtain ⟨ao,cap,rfl,i⟩:=hP.open;go_enter Tryz.func140,Tryz.ntmps140;go_wp2_with fail;refine (z _ hP).mono ?_;rintro e w0 ⟨rfl,ah⟩;have an:=ah.size;clear z;go_wp2_with (first|(at_make;refine wpList_make_own _ rfl _ _ 116 rfl w.heap.size 3 i0 (.int .i64 0) 1 Tryz.underlying116 hi K L _ _ _ B.length rfl rfl ?b1 ?b2 ?b3 ?b4 ?_))
 case b1=>rfl
 case b2=>first|omega|(rw [N];omega)
 case b3=>unfold maxLen;omega
 case b4=>exact an
 intro w1 m o;have A:Aa w0 w1:=(jD _).grown o (fun g hg=>by cases hg);have C:=(World.ownsRow.lt m _ rfl).2;have ap:=A.size;go_wp2_with (first|(at_make;refine wpList_make_own _ rfl _ _ 116 rfl w.heap.size 3 i0 (.int .i64 0) 1 Tryz.underlying116 hi K L _ _ _ B.length rfl rfl ?c1 ?c2 ?c3 ?c4 ?_))
 case c1=>rfl
 case c2=>first|omega|(rw [N];omega)
 case c3=>unfold maxLen;omega
 case c4=>omega
 intro w2 D p;have ai:Aa w1 w2:=(jD _).grown p (fun g hg=>by cases hg);have aq:Cj w.heap.size w0.heap.size w1.heap.size B.length B.length w2 [] []:=⟨BS.later (w:=w1) (B:=[]) m ai,D,jo⟩;have ar:Aa w w2:=ah.trans (A.trans ai);clear m D o p ah A ai an C ap;go_wp2;go_loopg [6,7,8,26] B.length (fun r va vb vl n wr=>Aa w wr/\∃(k ga gb ca cb:Nat) (f q:List Int) (O:Int),r=B.length - k/\k<=B.length/\n= .int .i64 k/\va=sl ga f.length ca/\vb=sl gb q.length cb/\vl= .int .i64 O/\Cj w.heap.size ga gb ca cb wr f q/\f=(B.take k).map (fun b=>M * b.2 / T)/\q=(B.take k).map (fun b=>M * b.2 % T)/\O=M - f.sum/\(∀x∈f,0<=x/\x<=2000)/\M - 2000 * k<=O/\O<=M)
 case atStart=>exact ⟨ar,0,_,_,_,_,[],[],M,jo,jo,rfl,rfl,rfl,rfl,aq,rfl,rfl,js,js,jo,jo⟩
 case round=>
  obtain ⟨hb,k,ga,gb,ca,cb,f,q,O,hr,hk,rfl,rfl,rfl,rfl,aa,s,t,P,aj,bp,bq⟩:=hrel;have bv:=hb.size;have ab:f.length=k:=by rw [s];simp;omega
  have ac:q.length=k:=by rw [t];simp;omega
  have HT:=jp aa;have br:f.length<=8:=jo
  have bs:q.length<=8:=jo
  have au:=jp ab;have av:=jp ac;clear aa aq ar ab ac;by_cases Q:k<B.length
  .obtain ⟨g,rfl,c0,c1⟩:=i k Q;have bg:=hb.cell c0;have bh:=hb.cell c1;obtain ⟨C,aw⟩:=(Y _ (jJ Q)).2.2
   have HA:Hid ((B.take (k+1)).map (fun b=>M * b.2 / T)=f++[M * B[k].2 / T]):=by
    show List.map _ _=_;rw [jQ Q,List.map_append,s];rfl
   have HB:Hid ((B.take (k+1)).map (fun b=>M * b.2 % T)=q++[M * B[k].2 % T]):=by
    show List.map _ _=_;rw [jQ Q,List.map_append,t];rfl
   have bj:=jp P;clear i c0 c1 P s t;generalize B[k]=bk at *;obtain ⟨bw,E⟩:=bk;simp only at bg bh HA HB C aw;have ax:0<=M * E:=Int.mul_nonneg bd C;have bx:M * E<=300 * 6:=Int.mul_le_mul be aw C jo;have bz:0<=M * E / T:=Int.ediv_nonneg ax jo;have b0:M * E / T<=M * E:=Int.ediv_le_self _ ax;have b5:(T==0)=false:=by rw [jI];omega
   go_wp2_with (first|(at_builtin;refine wpList_append_lies _ rfl _ _ 116 rfl w.heap.size 3 i0 (.int .i64 0) 1 8 Tryz.underlying116 hi K L N rfl ji _ (f).length ((f).map (Value.int .i64)) rfl ?p1a ⟨wr.heap.size+1,0,none⟩ 1 1 [.int .i64 (M * E / T)] rfl rfl ?da1 ?da2 ji ?da3 ?da4 ?da5 _ rfl ?_))
   case p1a=>exact (World.ownsRow.alloc (World.ownsRow.alloc HT.out.1 _) _)
   try (case da1=>exact Fz _ _ _ _ js)
   case da2=>first|rfl|(intro u hu;simp at hu;subst hu;rfl)
   case da3=>unfold maxLen;omega
   case da4=>omega
   case da5=>first|omega|(simp;omega)
   intro g1 ay w3 F a ad az;have H3:=jp (Cj.app1 (Cj.later HT.out ((Aa.step_alloc (jD wr) _).step_alloc _)) F rfl a (ad.imp id (fun e=>by rw [e];simp)));have a0:Aa w w3:=((hb.step_alloc _).step_alloc _).grown a (fun g hg=>(World.ownsRow.lt HT.out.1 g hg).1);have x1:w3.cell? ⟨wr.heap.size,1,none⟩=some (.int .i64 E):=JD a js (fun e=>by have:=(World.ownsRow.lt HT.out.1 _ e).2;simp at this);have b6:=a0.size;clear F a ad az HT;go_wp2_with (first|(at_builtin;refine wpList_append_lies _ rfl _ _ 116 rfl w.heap.size 3 i0 (.int .i64 0) 1 8 Tryz.underlying116 hi K L N rfl ji _ (q).length ((q).map (Value.int .i64)) rfl ?p1b ⟨w3.heap.size,0,none⟩ 1 1 [.int .i64 (M * E % T)] rfl rfl ?db1 ?db2 ji ?db3 ?db4 ?db5 _ rfl ?_))
   case p1b=>exact (World.ownsRow.alloc H3.out.2.1 _)
   try (case db1=>exact Fz _ _ _ _ js)
   case db2=>first|rfl|(intro u hu;simp at hu;subst hu;rfl)
   case db3=>unfold maxLen;omega
   case db4=>omega
   case db5=>first|omega|(simp;omega)
   intro g2 a1 w4 G c ae a2;have H4:=jp (Cj.app2 (Cj.later H3.out (Aa.step_alloc (jD w3) _)) G rfl c (ae.imp id (fun e=>by rw [e];simp)));have bl:Aa w w4:=(a0.step_alloc _).grown c (fun g hg=>(World.ownsRow.lt H3.out.2.1 g hg).1);clear G c ae a2 H3 x1;go_wp2;go_roundg (B.length - (k+1))
   case measure=>omega
   case rel=>
    refine ⟨bl,k+1,g1,g2,ay,a1,f++[M * E / T],q++[M * E % T],O - M * E / T,rfl,jo,by go_num,by simp [sl],by simp [sl],rfl,H4.out,HA.out.symm,HB.out.symm,?_,?_,jo,jo⟩
    .rw [bj.out];simp;omega
    .intro x hx;rcases jT.1 hx with hx|hx
     .exact aj x hx
     .simp at hx;subst hx;omega
  .have a3:B.take k=B:=jR jo;rw [a3] at s t
   have HF:Hid (X=CI O.toNat f q):=by
    show X=_;rw [HX.out,P,s,t]
   clear i a3 s t P HX;unfold sl;go_wp2;have a4:=HT.out;have ak:f.length=q.length:=by rw [au.out,av.out]
   generalize a5:f.length=na at *;rw [<-ak];go_loopg [8] O.toNat (fun r vl wz=>Aa w wz/\∃(l:Int) (S R:List Int),r=l.toNat/\vl= .int .i64 l/\Cj w.heap.size ga gb ca cb wz S R/\S.length=na/\R.length=na/\X=CI l.toNat S R/\l<=300/\ -20000<=l/\∀x∈S,0<=x/\x<=20000 - l)
   case atStart=>exact ⟨hb,O,f,q,rfl,rfl,a4,a5,ak.symm,HF.out,jo,jo,fun x hx=>by have:=aj x hx;omega⟩
   case round=>
    obtain ⟨U,l,S,R,b7,rfl,a6,a7,a8,a9,b8,b9,af⟩:=hrel;have al:=jp a9;have ba:=jp af;have H:=jp a6;have V:=jp a7;have W:=jp a8;have cc:=U.size;clear a9 af HT a4 HF aj au av a6 ak a5 a7 a8;by_cases cd:0<l
    .obtain ⟨n,hn⟩:∃n:Nat,l.toNat=n+1:=⟨l.toNat - 1,jo⟩;have I:=Qe R (sl gb R.length cb) _ H.out.2.1.row (by rw [W.out];omega);have bb:=Wg R;rw [W.out] at I bb
     have HG:Hid (X=if C1 R<0 then S else CI n (S.set (C1 R).toNat (S.getD (C1 R).toNat 0+1)) (R.set (C1 R).toNat (-1))):=by
      show X=_;rw [al.out,hn];rfl
     clear al;generalize C1 R=bi at *;obtain ⟨bt,bu⟩:=bb;unfold sl at I;have HN:=jp hn;clear hn;by_cases ag:bi<0
     .rw [if_pos ag] at HG;go_wp2_with fail;refine I.mono ?_;rintro e w5 ⟨rfl,J⟩;go_wp2;go_ret;exact ⟨_,rfl,U.trans J,by rw [HG.out];have:=(H.out.1.later J);unfold sl at this;rw [V.out] at this;exact this⟩
     .rw [if_neg ag] at HG;obtain ⟨j,hj⟩:∃j:Nat,bi=(j:Int):=⟨bi.toNat,jo⟩;subst hj;have bc:j<na:=jo
      go_wp2_with fail;refine I.mono ?_;rintro e w5 ⟨rfl,J⟩;have d:=H.out.later J;have am:j<S.length:=by rw [V.out];exact bc
      have k1:w5.cell? ⟨ga,j,none⟩=some (.int .i64 S[j]):=by
       rw [World.ownsRow.cellAt d.1 j jo];simp [am]
      have k2:=World.ownsRow.frozenAt d.1 j
      have k3:∃y,w5.cell? ⟨gb,j,none⟩=some y:=by
       have bm:j<R.length:=by rw [W.out];exact bc
       exact ⟨_,by rw [World.ownsRow.cellAt d.2.1 j jo,List.getElem?_map,jG bm];rfl⟩
      have k4:=World.ownsRow.frozenAt d.2.1 j;obtain ⟨y,k3⟩:=k3;have ce:=d.2.2;have cf:=ba.out _ (jJ am);have HJ:Hid (S.getD j 0=S[j]):=by show S.getD j 0=S[j];rw [jV,jG am];rfl
      have H5:=jp ((d.set1 j (S[j]+1)).set2 j (-1));generalize S[j]=sj at *;have bn:=(World.ownsRow.lt d.1 ga rfl).1;have bo:=(World.ownsRow.lt d.2.1 gb rfl).1;clear d H I;go_wp2;go_roundg (l - 1).toNat
      case measure=>omega
      case rel=>
       refine ⟨((U.trans J).step_set bn _).step_set bo _,l - 1,S.set j (sj+1),R.set j (-1),rfl,rfl,H5.out,by rw [List.length_set];exact V.out,by rw [List.length_set];exact W.out,?_,jo,jo,?_⟩
       .rw [HG.out,show (l - 1).toNat=n from by have:=HN.out;omega];simp only [Int.toNat_natCast];rw [HJ.out]
       .intro x hx;rcases List.mem_or_eq_of_mem_set hx with hx|rfl
        .have:=ba.out x hx;omega
        .omega
    .have HG:Hid (X=S):=by
      show X=S;rw [al.out,show l.toNat=0 by omega];rfl
     go_wp2
     go_ret
     exact ⟨_,rfl,U,by rw [HG.out];have:=H.out.1;unfold sl at this;rw [V.out] at this;exact this⟩
def Gl (base g cap:Nat) (w:jj) (S:List Int):Prop:=w.ownsRow base 76 2 (sl g S.length cap) S.length (Bf (BF S))
theorem YV (S:List Int) (k:Nat) (x:Int):Bf (BF (S.set k x))=(Bf (BF S)).set (k * 2+1) (.int .i64 x):=by
 induction S generalizing k with
 |nil=>simp [BF,Bf]
 |cons s S ih=>
  cases k with
  |zero=>simp [BF,Bf]
  |succ k=>
   have e:(k+1) * 2+1=k * 2+1+1+1:=jo
   have:=ih k;simp only [BF,Bf,List.set_cons_succ,List.map_cons,List.flatMap_cons,List.cons_append,List.nil_append,e] at this |-;rw [this]
theorem Gl.set {base g cap:Nat} {w:jj} {S:List Int} (h:Gl base g cap w S) (k:Nat) (x:Int):Gl base g cap (w.setCell ⟨g,k * 2+1,none⟩ (.int .i64 x)) (S.set k x):=by
 have a:=World.ownsRow.stored h (k * 2+1) (.int .i64 x);unfold Gl;rw [YV,sl,List.length_set];exact a.1
theorem Gl.ents {base g cap:Nat} {w:jj} {S:List Int} (h:Gl base g cap w S):AR w (sl g S.length cap) (BF S):=by
 have:=Ap.of_owns h;unfold AR;rw [Gp];exact this
theorem BG {base:Nat} {e:TypeId} {s:Nat} {w w':jj} {v:ju} {n:Nat} {a:List Value} (h:w.ownsRow base e s v n a) (k:Aa w w'):w'.ownsRow base e s v n a:=
 World.ownsRow.kept h (row := none) ⟨k.below.os, k.below.tape, k.below.output, k.size, fun j b _ => k.block j b⟩ (by
   cases c : v.ownBlock
   . exact Or.inl rfl
   . exact Or.inr js)
theorem Tb (n:Nat) (s r:List Int):(CI n s r).length=s.length:=by
 induction n generalizing s r with
 |zero=>rfl
 |succ n ih=>
  rw [CI];split
  .rfl
  .rw [ih,List.length_set]
theorem M4 (M:Int) (B:List BK) (h:1<=As B):(CJ M B).length=B.length:=by
 rw [CJ,if_neg jo,Tb,Bi,je]
theorem Sd (W:List (Int×Int)) (S:List Int) (i:Nat):(FP W S i).length=S.length:=by
 unfold FP;split
 .rw [List.length_set]
 .rfl
theorem OR (W:List (Int×Int)) (sh:List Int) (r:Nat) (S:List Int) (n:Nat):(Bu W sh r S n).length=S.length:=by
 induction n with
 |zero=>rfl
 |succ n ih=>
  rw [Bu];split
  .exact ih
  .rw [Sd,ih]
theorem MA (W:List (Int×Int)) (sh:List Int) (S:List Int) (n:Nat):(CD W sh S n).length=S.length:=by
 induction n with
 |zero=>rfl
 |succ n ih=>rw [CD,OR,ih]
theorem QN (c:Ac) (b:BK) (f:3<=c.slots) (a:c.slots<=211):(0<=(Cr c b).1/\(Cr c b).1<c.slots)/\1<=(Cr c b).2/\(Cr c b).2<c.slots:=by
 have d:=Kt (Al c.key 111 [] b.1) c.slots jo;have g:=Kt (Al c.key 115 [] b.1) (c.slots - 1) jo;refine ⟨d,?_,?_⟩<;>simp only [Cr] <;>omega
theorem T3 {S:List Int} {y:Int×Int} {j:Nat} (h:EF S y=some j):j<S.length:=by
 have a:=List.mem_of_find?_eq_some h;obtain ⟨i,b,rfl⟩:=List.mem_map.1 a;have:i<S.length:=by simpa using b
 exact K9 y i jo
def Jp (w:jj) (L:List EI) (e:Ending) (w':jj):Prop:=∃v,e= .returned v/\Aa w w'/\AS w.heap.size w' v L
def F6 (w a:jj) (g cap:Nat) (b c:ju) (W:List (Int×Int)) (sh:List Int) (S:List Int) (wr:jj):Prop:=
 Aa w wr/\Gl (w.heap.size+1) g cap wr S/\FV a.heap.size wr b W/\BS a.heap.size wr c sh/\g<a.heap.size
theorem F6.later {w a:jj} {g cap:Nat} {b c:ju} {W:List (Int×Int)} {sh S:List Int} {wr d:jj} (h:F6 w a g cap b c W sh S wr) (k:Aa wr d):F6 w a g cap b c W sh S d:=
 ⟨h.1.trans k,BG h.2.1 k,BG h.2.2.1 k,BG h.2.2.2.1 k,h.2.2.2.2⟩
theorem F6.set {w a:jj} {g cap:Nat} {b c:ju} {W:List (Int×Int)} {sh S:List Int} {wr:jj} (h:F6 w a g cap b c W sh S wr) (k:Nat) (x:Int):F6 w a g cap b c W sh (S.set k x) (wr.setCell ⟨g,k * 2+1,none⟩ (.int .i64 x)):=by
 have d:=(World.ownsRow.lt h.2.1 g rfl).1;exact ⟨h.1.step_set jv _,h.2.1.set k x,ownsRow_setCell_below h.2.2.1 h.2.2.2.2 _,ownsRow_setCell_below h.2.2.2.1 h.2.2.2.2 _,h.2.2.2.2⟩
theorem Up (c:Ac) (B:List BK) (v:ju) (w:jj) (hP:Am w v B) (hB:AL B) (hc:c.OK) (hT:1<=As B):
  Calls Tryz.prog 87 #[.agg c.cells,v] w (Jp w (BF (F3 c B))):=by
 obtain ⟨i0,hi,aw,ax,ay⟩:=info_parts Tryz.infoEI;have D:=fun o hx=>U3 c B v o hx hB hc
 obtain ⟨az,a0,bi⟩:3<=c.slots/\c.slots<=211/\c.key.size=16:=⟨hc.2.2.1,hc.2.2.2.1,hc.2.2.2.2.2.2.2.2.2.1⟩;have Al:=fun o hx=>Ya c.slots B v o hx hB jo jo
 have E:=M4 c.slots B hT;have h8:=hB.1
 have a1:∀y∈B.map (Cr c),(0<=y.1/\y.1<=300)/\0<=y.2/\y.2<=300:=by
  intro y hy;obtain ⟨b,_,rfl⟩:=List.mem_map.1 hy;have:=QN c b az a0;omega
 have ah:(B.map (Cr c)).length=B.length:=js
 obtain ⟨M,hM⟩:∃M:Nat,c.slots=(M:Int):=⟨c.slots.toNat,jo⟩;obtain ⟨X,hX⟩:∃X,X=F3 c B:=⟨_,rfl⟩;rw [<-hX];rw [F3,hM,Int.toNat_natCast] at hX;rw [hM] at Al E;generalize CJ (M:Int) B=sh at *;generalize B.map (Cr c)=W at *;have HX:=jp hX;obtain ⟨alg,a2,p,s,key,f⟩:=c;simp only [Ac.cells] at *;subst hM;clear hc hX hB;go_enter Tryz.func87,Tryz.ntmps87;go_wp2;obtain ⟨A,a⟩:∃A,A=w.alloc (.cells #[.int .i64 alg,.int .i64 (M:Int),.int .i64 p,.int .i64 s,.string key,.int .i64 f] 30):=⟨_,rfl⟩;have m0:A.cell? ⟨w.heap.size,0,none⟩=some (.int .i64 alg):=by rw [a];simp
 have m1:A.cell? ⟨w.heap.size,1,none⟩=some (.int .i64 (M:Int)):=by rw [a];simp
 have m2:A.cell? ⟨w.heap.size,2,none⟩=some (.int .i64 p):=by rw [a];simp
 have m3:A.cell? ⟨w.heap.size,3,none⟩=some (.int .i64 s):=by rw [a];simp
 have m4:A.cell? ⟨w.heap.size,4,none⟩=some (.string key):=by rw [a];simp
 have m5:A.cell? ⟨w.heap.size,5,none⟩=some (.int .i64 f):=by rw [a];simp
 have a3:Aa w A:=by rw [a];exact (jD w).step_alloc _
 have bk:A.heap.size=w.heap.size+1:=by rw [a];simp
 rw [<-a];clear a;go_loopg [5,6] M (fun r vL n wr=>Aa A wr/\∃(k:Nat),r=M - k/\k<=M/\n= .int .i64 k/\AS (w.heap.size+1) wr vL (BF (List.replicate k (-1))))
 case atStart=>exact ⟨jD _,0,jo,jo,rfl,World.ownsRow_nil _ _ _ _⟩
 case round=>
  obtain ⟨I,k,hr,hk,rfl,hL⟩:=hrel;have a4:=I.size;have a5:w.heap.size<wr.heap.size:=jo
  have n1:=I.cell m1;have aa:k<=300:=jo
  have HO:=jp hL;clear hL;by_cases ai:k<M
  .have l:(BF (List.replicate k (-1))).length=k:=by rw [Gp,List.length_replicate]
   have HS:Hid (BF (List.replicate (k+1) (-1))=BF (List.replicate k (-1))++[(0, -1)]):=by
    show BF _=_;rw [List.replicate_succ',BF,List.map_append];rfl
   generalize BF (List.replicate k (-1))=L at *;have bl:L.length<=300:=jo
   have bm:=jp l;clear l;go_wp2_with (first|(at_builtin;refine wpList_append_own _ rfl _ _ 46 rfl (w.heap.size+1) 76 i0 (.agg #[.int .u64 0,.int .i64 0]) 2 16 Tryz.underlying46 hi aw ax ay rfl ji _ L.length (Bf L) rfl ?p1 ⟨wr.heap.size,0,none⟩ 1 1 [.int .u64 0,.int .i64 (-1)] rfl rfl ?d1 ?d2 ?d3 ?d4 ?d5 ?_))
   case p1=>exact World.ownsRow.alloc HO.out _
   try (case d1=>exact C8 _ _ _ _ _ js)
   case d2=>first|exact ⟨rfl,rfl⟩|exact Df rfl rfl
   case d3=>unfold maxLen;omega
   case d4=>omega
   case d5=>first|omega|(simp;omega)
   intro v2 w2 F t _;have d:Aa A w2:=(I.step_alloc _).grown t (fun g hg=>by have:=(World.ownsRow.lt HO.out g hg).1;omega);have H2:=jp (AS.snoc (b:=(0, -1)) F rfl);clear F t;go_wp2;go_roundg (M - (k+1))
   case measure=>omega
   case rel=>exact ⟨d,k+1,rfl,jo,by go_num,by rw [HS.out];exact H2.out⟩
  .obtain rfl:k=M:=jo
   have l:(BF (List.replicate k (-1))).length=k:=by rw [Gp,List.length_replicate]
   obtain ⟨g,cap,a6,bn,a7⟩:=World.ownsRow.form HO.out (by rw [l];omega);subst a6;rw [l] at HO |-;have n0:=I.cell m0;have n2:=I.cell m2;have n3:=I.cell m3;have n4:=I.cell m4;have n5:=I.cell m5;have J:=a3.trans I;go_wp2_with fail;refine (D _ (hP.later J)).mono ?_;rintro e w2 ⟨vW,rfl,d,ab⟩;have p1:=d.cell n1;go_wp2_with fail;refine (Al _ (hP.later (J.trans d))).mono ?_;rintro e w3 ⟨vS,rfl,x,ac⟩;have O:=d.size;obtain ⟨wb,P⟩:∃wb,wb=wr:=⟨_,rfl⟩
   have G:F6 w wb g cap vW vS W sh (List.replicate k (-1)) w3:=by
    rw [P];refine ⟨J.trans (d.trans x),?_,BG ab x,World.ownsRow.mono ac O,a7⟩;have:=BG HO.out (d.trans x);unfold Gl sl;rw [List.length_replicate];simpa [l] using this
   have p1:=x.cell p1;have aj:=d.trans x
   obtain ⟨aW,Q,a8,a9⟩:∃aW cW,vW= .slice aW B.length cW/\∀o,FV wb.heap.size o vW W->∀j (R:j<W.length),∃C,aW=some ⟨C,0,none⟩/\o.cell? ⟨C,j * 2,none⟩=some (.int .i64 W[j].1)/\o.cell? ⟨C,j * 2+1,none⟩=some (.int .i64 W[j].2):=by
    obtain ⟨C, cw, T, _, _⟩ := World.ownsRow.form ab (by rw [ah]; exact Nat.pos_of_ne_zero (fun e => by
      have : B = [] := jS e
      subst this; simp [As] at hT))
    rw [ah] at T;refine ⟨_,cw,T,fun o hx j R=>⟨C,rfl,?_,?_⟩⟩
    .have:=World.ownsRow.cells hx (g:=C) (by rw [T];rfl) (j * 2) _ (N4 W j R).1;rwa [show (⟨C,0,none⟩:Addr).add (j * 2)=⟨C,j * 2,none⟩ by unfold Addr.add;split <;>simp_all] at this
    .have:=World.ownsRow.cells hx (g:=C) (by rw [T];rfl) (j * 2+1) _ (N4 W j R).2;rwa [show (⟨C,0,none⟩:Addr).add (j * 2+1)=⟨C,j * 2+1,none⟩ by unfold Addr.add;split <;>simp_all] at this
   obtain ⟨aS,U,ba,bb⟩:∃aS cS,vS= .slice aS B.length cS/\∀o,BS wb.heap.size o vS sh->∀j (R:j<sh.length),∃V,aS=some ⟨V,0,none⟩/\o.cell? ⟨V,j,none⟩=some (.int .i64 sh[j]):=by
    obtain ⟨V, cs, T, _, _⟩ := World.ownsRow.form ac (by rw [E]; exact Nat.pos_of_ne_zero (fun e => by
      have : B = [] := jS e
      subst this; simp [As] at hT))
    rw [E] at T;refine ⟨_,cs,T,fun o hx j R=>⟨V,rfl,?_⟩⟩;have:=World.ownsRow.cells hx (g:=V) (by rw [T];rfl) j (.int .i64 sh[j]) (by simp [R]);rwa [show (⟨V,0,none⟩:Addr).add j=⟨V,j,none⟩ by unfold Addr.add;split <;>simp_all] at this
   subst a8;subst ba;clear P n0 n2 n3 n4 n5 d x ab ac D Al HO l O m0 m1 m2 m3 m4 m5;go_wp2;clear hk hr ai aa a4 a5 J aj n1;obtain ⟨Y,ad⟩:∃Y:List Int,Y=List.replicate k (-1):=⟨_,rfl⟩;have Z:Y.length=k:=by rw [ad];simp
   rw [<-ad] at HX G;clear ad;go_loopg [9] k (fun r n wr=>∃q:Nat,r=k - q/\q<=k/\n= .int .i64 q/\F6 w wb g cap (.slice aW B.length Q) (.slice aS B.length U) W sh (CD W sh Y q) wr/\wr.cell? ⟨w.heap.size,1,none⟩=some (.int .i64 (k:Int)))
   case atStart=>exact ⟨0,jo,jo,rfl,G,p1⟩
   case round=>
    obtain ⟨q,bo,hq,rfl,ak,o1⟩:=hrel;have HM:=jp ak;clear ak G p1;by_cases ai:q<k
    .have hd:decide ((q:Int)<(k:Int))=true:=jL jo;have HF:Hid (CD W sh Y (q+1)=Bu W sh q (CD W sh Y q) sh.length):=rfl;have bc:(CD W sh Y q).length=k:=by rw [MA,Z]
     have bp:=HX;generalize CD W sh Y q=u at *;go_wp2;go_loopg [38] sh.length (fun r n wr=>∃i:Nat,r=sh.length - i/\i<=sh.length/\n= .int .i64 i/\F6 w wb g cap (.slice aW B.length Q) (.slice aS B.length U) W sh (Bu W sh q u i) wr/\wr.cell? ⟨w.heap.size,1,none⟩=some (.int .i64 (k:Int)))
     case atStart=>exact ⟨0,jo,jo,rfl,HM.out,o1⟩
     case round=>
      obtain ⟨i,bq,br,rfl,m,o2⟩:=hrel;by_cases al:i<sh.length
      .have bj:i<B.length:=jo
       have ae:i<W.length:=jo
       obtain ⟨V,bd,s0⟩:=bb _ m.2.2.2.1 i al;obtain ⟨C,be,y0,y1⟩:=a9 _ m.2.2.1 i ae;obtain ⟨⟨am,an⟩,ao,ap⟩:=a1 _ (jJ ae)
       have HR:Hid (Bu W sh q u (i+1)=if sh[i]<=q then Bu W sh q u i else FP W (Bu W sh q u i) i):=by
        show Bu W sh q u (i+1)=_;rw [Bu,jV,jG al];rfl
       have af:(Bu W sh q u i).length=k:=by rw [OR,bc]
       have z:=fun o hx=>VI (Bu W sh q u i) (sl g (Bu W sh q u i).length cap) W[i] o hx jo am an ao ap
       have HT:Hid (FP W (Bu W sh q u i) i=match EF (Bu W sh q u i) W[i] with|some k=>(Bu W sh q u i).set k i|none=>Bu W sh q u i):=by
        show FP _ _ _=_;rw [FP,jV,jG ae];rfl
       have K:=jp m;have z:=z _ m.2.1.ents;have aq:=fun j=>T3 (S:=Bu W sh q u i) (y:=W[i]) (j:=j)
       rw [af] at z aq;unfold sl at z;clear m;generalize Bu W sh q u i=Si at *;generalize W[i]=yw at *;generalize sh[i]=ag at *;obtain ⟨yo,yk⟩:=yw;simp only at y0 y1 z HT am an ao ap;subst bd;subst be;by_cases N:ag<=(q:Int)
       .rw [if_pos N] at HR;have bf:decide ((q:Int)>=ag)=true:=jL N;go_wp2;go_roundg (sh.length - (i+1))
        case measure=>omega
        case rel=>exact ⟨i+1,rfl,jo,by go_num,by rw [HR.out];exact K.out,o2⟩
       .rw [if_neg N,HT.out] at HR;have bf:decide ((q:Int)>=ag)=false:=jK N;generalize EF Si (yo,yk)=ff at *;go_wp2_with fail;refine z.mono ?_;rintro e w5 ⟨rfl,ar⟩;have o5:=ar.cell o2;have H:=jp (K.out.later ar);cases ff with
        |none=>
         simp only [Hr];simp only at HR;go_wp2;go_roundg (sh.length - (i+1))
         case measure=>omega
         case rel=>exact ⟨i+1,rfl,jo,by go_num,by rw [HR.out];exact H.out,o5⟩
        |some j=>
         have R:=aq j rfl;simp only [Hr];simp only at HR
         have k1:∃y,w5.cell? ⟨g,j * 2+1,none⟩=some y:=by
          have bg:j<(BF Si).length:=by rw [Gp,af];exact R
          exact ⟨_,by rw [World.ownsRow.cellAt H.out.2.1 (j * 2+1) (by rw [af];omega)];exact (JZ _ j bg).2⟩
         have k2:=World.ownsRow.frozenAt H.out.2.1 (j * 2+1);obtain ⟨y,k1⟩:=k1;have bs:w.heap.size+1<=g:=(World.ownsRow.lt H.out.2.1 g rfl).1;go_wp2;go_roundg (sh.length - (i+1))
         case measure=>omega
         case rel=>exact ⟨i+1,rfl,jo,by go_num,by rw [HR.out];exact H.out.set j _,by rw [Ad jx];exact o5⟩
      .obtain rfl:i=sh.length:=jo
       have K:=jp m;clear m;go_wp2;go_roundg (k - (q+1))
       case measure=>omega
       case rel=>exact ⟨q+1,rfl,jo,by go_num,by rw [HF.out];exact K.out,o2⟩
    .obtain rfl:q=k:=jo
     have au:=jp HM.out.2.1;have bh:=HM.out.1;rw [<-HX.out] at au;have av:X.length=q:=by rw [HX.out,MA,Z]
     go_wp2;go_ret;exact ⟨_,rfl,bh,by have:=au.out;unfold Gl at this;unfold AS;rw [Gp];rw [sl,av] at this;rw [av];exact World.ownsRow.mono this jo⟩
end Go.Proofs.YtpapdkhjdelfcaaGreat
