import Derived.Test.YtpapdkhjdelfcabGreatLAD
import Derived.Laws.AppendOwnNone
namespace Go.Proofs.YtpapdkhjdelfcabGreat
open Go.RowKit
set_option maxRecDepth 100000
set_option maxHeartbeats 4000000
theorem TH (w:World) (a b:Nat):IM (w.alloc (.cells #[.int .i64 (a:Int),.int .i64 (b:Int)] 3)) (.slice (some ⟨w.heap.size,0,none⟩) 2 2) [a,b]:=by
 refine Or.inr ⟨w.heap.size,2,rfl,by simp,by simp,fun j u hu=>?_⟩;have hl:=(List.getElem?_eq_some_iff.1 hu).1;simp at hl;rcases (show j=0∨j=1 by omega) with rfl|rfl
 ·simp at hu;subst hu;simp
 ·simp at hu;subst hu;simp
theorem Jl (w:World) (a:Nat):IM (w.alloc (.cells #[.int .i64 (a:Int)] 3)) (.slice (some ⟨w.heap.size,0,none⟩) 1 1) [a]:=by
 refine Or.inr ⟨w.heap.size,1,rfl,by simp,by simp,fun j u hu=>?_⟩;have hl:=(List.getElem?_eq_some_iff.1 hu).1;simp at hl;rcases (show j=0 by omega) with rfl;simp at hu;subst hu;simp
theorem WM (key:ByteArray) (s:Nat) (B:List BK) (v:Value) (w:World) (hP:Am w v B) (hB:AL B) (hk:key.size=16):
  Calls Tryz.prog 186 #[.string key,.int .i64 s,v] w (J0 w (CS key B s)):=by
 obtain ⟨h8,hall⟩:=hB;obtain ⟨ao,cap,rfl,hcell⟩:=hP.open;obtain ⟨X,hX⟩:∃X,X=CS key B s:=⟨_,rfl⟩;rw [←hX];rw [CS] at hX;have HX:=jp hX;clear hX
 have hstep:∀i (h:i<B.length),AV key s B (i+1)=A6 key s i B[i].1 (AV key s B i) B[i].2.toNat:=fun i h=>by
  rw [AV,jG h]
 have h0:AV key s B 0=(-1,0):=rfl;generalize AV key s B=wt at *;go_enter Tryz.func186,Tryz.ntmps186;go_wp2;go_loopg [7,8,15] B.length (fun r vb vm n wr=>Aa w wr∧∃k:Nat,r=B.length - k∧k≤B.length∧n= .int .i64 k∧vb= .int .i64 (wt k).1∧vm= .int .u64 (wt k).2)
 case atStart=>exact ⟨jD _,0,by omega,by omega,rfl,by rw [h0],by rw [h0]⟩
 case round=>
  obtain ⟨hb,k,hr,hkB,rfl,rfl,rfl⟩:=hrel;by_cases hlt:k<B.length
  ·obtain ⟨g,rfl,c0,c1⟩:=hcell k hlt;have c0':=hb.cell c0;have c1':=hb.cell c1;have HS:=jp (hstep k hlt);obtain ⟨hid1,hid,hw1,hw2⟩:=hall _ (jJ hlt);clear hcell c0 c1 hstep;generalize B[k]=bk at *;obtain ⟨idk,wk⟩:=bk;simp only at c0' c1' HS hid hw1 hw2 hid1;obtain ⟨n,hn⟩:∃n:Nat,wk=(n:Int):=⟨wk.toNat,by omega⟩;subst hn;rw [Int.toNat_natCast] at HS;generalize wt k=m0 at *;go_wp2;have hm0:A6 key s k idk m0 0=m0:=rfl;have hwt:∀j,A6 key s k idk m0 (j+1)=if (A6 key s k idk m0 j).1<0∨(A6 key s k idk m0 j).2<Al key 104 [s,j] idk then ((k:Int),Al key 104 [s,j] idk) else A6 key s k idk m0 j:=fun _=>rfl
   generalize A6 key s k idk m0=wj at *;obtain ⟨wb,hwb⟩:∃wb,wb=wr.alloc (.cells #[.string idk,.int .i64 (n:Int)] 75):=⟨_,rfl⟩;have d0:wb.cell? ⟨wr.heap.size,0,none⟩=some (.string idk):=by rw [hwb];simp
   have d1:wb.cell? ⟨wr.heap.size,1,none⟩=some (.int .i64 (n:Int)):=by rw [hwb];simp
   have hbb:Aa w wb:=by rw [hwb];exact hb.step_alloc _
   rw [←hwb];generalize wr.heap.size=pb at *;clear hwb hb c0' c1';go_loopg [7,8,11] n (fun r vb vm vk wr=>Aa wb wr∧∃j:Nat,r=n - j∧j≤n∧vk= .int .i64 j∧vb= .int .i64 (wj j).1∧vm= .int .u64 (wj j).2)
   case atStart=>exact ⟨jD _,0,by omega,by omega,rfl,by rw [hm0],by rw [hm0]⟩
   case round=>
    obtain ⟨hbj,j,hrj,hjn,rfl,rfl,rfl⟩:=hrel;have e0:=hbj.cell d0;have e1:=hbj.cell d1;have hpl:=jF e0;by_cases hjl:j<n
    ·have HW:=jp (hwt j);have hH:=fun wx=>F5 key 104 [s,j] (.slice (some ⟨wx.heap.size,0,none⟩) 2 2) idk _ (TH wx s j) (by simp) (by omega) (by omega)
     clear hwt;generalize Al key 104 [s,j] idk=x at *;generalize wj j=mj at *;obtain ⟨mb,mm⟩:=mj;simp only at HW;have hd:decide ((j:Int)<(n:Int))=true:=jL (by omega);simp only at hpl;go_wp2_with fail;refine (hH _).mono ?_;rintro e w2 ⟨rfl,hb2⟩;have hb3:Aa wb w2:=(hbj.step_alloc _).trans hb2;clear hb2 hH;by_cases hn:mb<0
     ·rw [if_pos (Or.inl hn)] at HW;go_wp2;go_roundg (n - (j+1))
      case measure=>omega
      case rel=>exact ⟨hb3,j+1,rfl,by omega,by go_num,by rw [HW.out],by rw [HW.out]⟩
     ·have hnf:decide (mb<0)=false:=jK hn;by_cases hg:mm<x
      ·rw [if_pos (Or.inr hg)] at HW;have hgt:decide (x>mm)=true:=jL hg;go_wp2;go_roundg (n - (j+1))
       case measure=>omega
       case rel=>exact ⟨hb3,j+1,rfl,by omega,by go_num,by rw [HW.out],by rw [HW.out]⟩
      ·rw [if_neg (fun h=>h.elim hn hg)] at HW;have hgt:decide (x>mm)=false:=jK hg;go_wp2;go_roundg (n - (j+1))
       case measure=>omega
       case rel=>exact ⟨hb3,j+1,rfl,by omega,by go_num,by rw [HW.out],by rw [HW.out]⟩
    ·obtain rfl:j=n:=by omega
     clear hwt;go_wp2;go_roundg (B.length - (k+1))
     case measure=>omega
     case rel=>exact ⟨hbb.trans hbj,k+1,rfl,by omega,by go_num,by rw [HS.out],by rw [HS.out]⟩
  ·obtain rfl:k=B.length:=by omega
   clear hcell hstep;go_wp2;go_ret;exact ⟨BO HX.out.symm,hb⟩
theorem Yv (c:Ac) (B:List BK) (v:Value) (w:World) (hP:Am w v B) (hB:AL B) (hc:c.OK):
  Calls Tryz.prog 144 #[.agg c.cells,v] w (Jp w (BF ((List.range c.slots.toNat).map (CS c.key B)))):=by
 obtain ⟨i0,hi,hz0,hz1,hz2⟩:=info_parts Tryz.infoEI;obtain ⟨hs1,hs2,hk16⟩:3≤c.slots∧c.slots≤211∧c.key.size=16:=⟨hc.2.2.1,hc.2.2.2.1,hc.2.2.2.2.2.2.2.2.2.1⟩;have hwin:=fun s wx hx=>WM c.key s B v wx hx hB hk16
 have hbnd:∀s, -1≤CS c.key B s∨True:=fun _=>Or.inr trivial
 obtain ⟨M,hM⟩:∃M:Nat,c.slots=(M:Int):=⟨c.slots.toNat,by omega⟩
 have hrange:∀k,BF ((List.range (k+1)).map (CS c.key B))=BF ((List.range k).map (CS c.key B))++[(0,CS c.key B k)]:=fun k=>by
  rw [List.range_succ,List.map_append,BF,List.map_append];rfl
 have hlen:∀k,(BF ((List.range k).map (CS c.key B))).length=k:=fun k=>by rw [Gp];simp
 have h0:BF ((List.range 0).map (CS c.key B))=[]:=rfl;obtain ⟨Lk,hLk⟩:∃Lk:Nat→List EI,Lk=fun k=>BF ((List.range k).map (CS c.key B)):=⟨_,rfl⟩
 have hr2:∀k,Lk (k+1)=Lk k++[(0,CS c.key B k)]:=fun k=>by rw [hLk];exact hrange k
 have hl2:∀k,(Lk k).length=k:=fun k=>by rw [hLk];exact hlen k
 have h02:Lk 0=[]:=by rw [hLk];exact h0
 rw [show BF ((List.range c.slots.toNat).map (CS c.key B))=Lk M from by rw [hLk,hM];rfl];generalize CS c.key B=wf at *;clear hLk hrange hlen h0 hbnd;obtain ⟨alg,slots,points,probes,key,formats⟩:=c;simp only [Ac.cells] at *;subst hM;clear hc hB;go_enter Tryz.func144,Tryz.ntmps144;go_wp2;obtain ⟨wm,hwm⟩:∃wm,wm=w.alloc (.cells #[.int .i64 alg,.int .i64 (M:Int),.int .i64 points,.int .i64 probes,.string key,.int .i64 formats] 34):=⟨_,rfl⟩;have m1:wm.cell? ⟨w.heap.size,1,none⟩=some (.int .i64 (M:Int)):=by rw [hwm];simp
 have m4:wm.cell? ⟨w.heap.size,4,none⟩=some (.string key):=by rw [hwm];simp
 have hwb:Aa w wm:=by rw [hwm];exact (jD w).step_alloc _
 have hsz:wm.heap.size=w.heap.size+1:=by rw [hwm];simp
 rw [←hwm];clear hwm;go_loopg [5,6] M (fun r vL n wr=>Aa wm wr∧∃(k:Nat),r=M - k∧k≤M∧n= .int .i64 k∧AS (w.heap.size+1) wr vL (Lk k))
 case atStart=>exact ⟨jD _,0,by omega,by omega,rfl,by rw [h02];exact World.ownsRow_nil _ _ _ _⟩
 case round=>
  obtain ⟨hb,k,hr,hk,rfl,hL⟩:=hrel;have hwr:=hb.size;have n1:=hb.cell m1;have n4:=hb.cell m4;have HO:=jp hL;clear hL;by_cases hlt:k<M
  ·have hLl:=hl2 k;have HS:=jp (hr2 k);have hw:=fun wx hx=>hwin k wx hx
   clear hl2 hr2 h02 hwin;generalize Lk k=L at *;have hLk:L.length≤300:=by omega
   clear hLl;generalize wf k=x at *;go_wp2_with fail;refine (hw _ (hP.later (hwb.trans hb))).mono ?_;rintro e w1 ⟨rfl,hb1⟩;have hO1:=jp (BG HO.out hb1);have hbm:=hb.trans hb1;have hw1:=hbm.size;clear HO hw hb1;go_wp2_with (first|(at_builtin;refine wpList_append_own _ rfl _ _ 64 rfl (w.heap.size+1) 116 i0 (.agg #[.int .u64 0,.int .i64 0]) 2 16 Tryz.underlying64 hi hz0 hz1 hz2 rfl (by decide) _ L.length (Bf L) rfl ?p1 ⟨w1.heap.size,0,none⟩ 1 1 [.int .u64 0,.int .i64 x] rfl rfl ?d1 ?d2 ?d3 ?d4 ?d5 ?_))
   case p1=>exact World.ownsRow.alloc hO1.out _
   try (case d1=>exact C8 _ _ _ _ _ (by simp))
   case d2=>first|exact ⟨rfl,rfl⟩|exact Df rfl rfl
   case d3=>unfold maxLen;omega
   case d4=>omega
   case d5=>first|omega|(simp;omega)
   intro v2 w2 hown2 hgrow2 _;have hb2:Aa wm w2:=(hbm.step_alloc _).grown hgrow2 (fun g hg=>by have:=(World.ownsRow.lt hO1.out g hg).1;omega);have H2:=jp (AS.snoc (b:=(0,x)) hown2 rfl);clear hown2 hgrow2;go_wp2;go_roundg (M - (k+1))
   case measure=>omega
   case rel=>exact ⟨hb2,k+1,rfl,by omega,by go_num,by rw [HS.out];exact H2.out⟩
  ·obtain rfl:k=M:=by omega
   clear hl2 hr2 h02 hwin;go_wp2;go_ret;exact ⟨_,rfl,hwb.trans hb,World.ownsRow.mono HO.out (by omega)⟩
def Fv (w:World) (x:Value) (m:Nat) (news:List Value):Prop:=
 (x= .slice none 0 0∧m=0∧news=[])∨∃ad c,x= .slice (some ad) m c∧∀j u,news[j]?=some u→w.cell? (ad.add j)=some u
theorem Fv.later {a w:World} {x:Value} {m:Nat} {news:List Value} (h:Fv a x m news) (k:Aa a w):Fv w x m news:=by
 rcases h with h|⟨ad,c,hx,hc⟩
 ·exact Or.inl h
 ·exact Or.inr ⟨ad,c,hx,fun j u hu=>k.cell (hc j u hu)⟩
theorem Fn {P:Program} (w:World) {ops:Array Oper} {rest:List Oper} {o:Oper} {a:Act} {Q:Exit→Act→World→Prop} (hgd:o.guard=none) (s x:Operand) (t:TypeId)
  (ho:o.op= .call {callee:= .builtin .append,args:=#[s,x],argTypes:=#[t,t]})
  (base:Nat) (e:TypeId) (i:TypeInfo) (z:Value) (size bytes:Nat) (ht:P.underlying t=some (.slice e)) (hi:P.info? e=some i) (hz:i.zero=some z)
  (hsize:i.size=size) (hby:i.bytes=bytes) (hzs:z.cells.size=size) (hsz:0<size)
  (v:Value) (n:Nat) (xs:List Value) (hs:a.eval s=v) (hown:w.ownsRow base e size v n xs)
  (xv:Value) (m:Nat) (news:List Value) (hx:a.eval x=xv) (hsrc:Fv w xv m news) (hl:news.length=m * size) (h1:∀u∈news,u.oneCell'=true)
  (h63:n+m≤maxLen) (hbytes:(n+m) * bytes≤140737488355328) (hbase:base≤w.heap.size)
  (h:∀v' w',w'.ownsRow base e size v' (n+m) (xs++news)→w.grownBy w' v.ownBlock→wpList P ops Q rest (a.put o.dst v') w'):wpList P ops Q (o::rest) a w:=by
 rcases hsrc with ⟨rfl,rfl,rfl⟩|⟨ad,c,rfl,hc⟩
 ·refine wpList_append_own_none hgd s x t ho base e i size ht hi v n xs hs hown hx ?_;exact h v w (by simpa using hown) (World.grownBy.refl w _)
 ·exact wpList_append_own w hgd s x t ho base e i z size bytes ht hi hz hsize hby hzs hsz v n xs hs hown ad m c news hx hl hc h1 h63 hbytes hbase (fun v' w' h2 h3 _=>h v' w' h2 h3)
def Ds (base g cap:Nat) (w:World) (X:List EI):Prop:=w.ownsRow base 116 2 (sl g X.length cap) X.length (Bf X)
theorem SQ (X:List EI) (k:Nat) (e:EI):Bf (X.set k e)=((Bf X).set (k * 2) (.int .u64 e.1)).set (k * 2+1) (.int .i64 e.2):=by
 induction X generalizing k with
 |nil=>simp [Bf]
 |cons s S ih=>
  cases k with
  |zero=>simp [Bf]
  |succ k=>
   have e1:(k+1) * 2=k * 2+1+1:=by omega
   have:=ih k;simp only [Bf,List.set_cons_succ,List.flatMap_cons,List.cons_append,List.nil_append,e1] at this ⊢;rw [this]
theorem Ds.set {base g cap:Nat} {w:World} {X:List EI} (h:Ds base g cap w X) (k:Nat) (a b:Int):Ds base g cap ((w.setCell ⟨g,k * 2,none⟩ (.int .u64 a)).setCell ⟨g,k * 2+1,none⟩ (.int .i64 b)) (X.set k (a,b)):=by
 have h1:=(World.ownsRow.stored h (k * 2) (.int .u64 a)).1;have h2:=(World.ownsRow.stored h1 (k * 2+1) (.int .i64 b)).1;unfold Ds;rw [SQ,sl,List.length_set];exact h2
theorem Ds.get {base g cap:Nat} {w:World} {X:List EI} (h:Ds base g cap w X) (j:Nat) (hj:j<X.length):w.cell? ⟨g,j * 2,none⟩=some (.int .u64 X[j].1)∧w.cell? ⟨g,j * 2+1,none⟩=some (.int .i64 X[j].2):=by
 have:=JZ X j hj;exact ⟨by rw [World.ownsRow.cellAt h (j * 2) (by omega)];exact this.1,by rw [World.ownsRow.cellAt h (j * 2+1) (by omega)];exact this.2⟩
theorem OD (B:List EI):∀u∈Bf B,u.oneCell'=true:=by
 intro u hu;simp only [Bf,jd,ja,List.not_mem_nil,or_false] at hu;obtain ⟨b,_,rfl|rfl⟩:=hu <;>rfl
theorem AR.src {w:World} {v:Value} {L:List EI} (h:AR w v L):Fv w v L.length (Bf L):=by
 rcases h with ⟨h1,h2,h3⟩|⟨g,cap,hv,hn,hg,hc⟩
 ·exact Or.inl ⟨h1,h2,h3⟩
 ·refine Or.inr ⟨_,_,hv,fun j u hu=>?_⟩;have hadd:(⟨g,0,none⟩:Addr).add j=⟨g,j,none⟩:=by unfold Addr.add;split <;>simp_all
  rw [hadd];exact hc j u hu
def IA (L:List EI):Prop:=L.Pairwise fun a b=>a.1≤b.1
theorem Mw {e x:EI} {L:List EI}:x∈Ck e L↔x=e∨x∈L:=by
 induction L with
 |nil=>simp [Ck]
 |cons b B ih=>
  simp only [Ck];split
  ·simp
  ·simp only [ja,ih];constructor
   ·rintro (h|h|h)
    ·exact Or.inr (Or.inl h)
    ·exact Or.inl h
    ·exact Or.inr (Or.inr h)
   ·rintro (h|h|h)
    ·exact Or.inr (Or.inl h)
    ·exact Or.inl h
    ·exact Or.inr (Or.inr h)
theorem NC (e:EI) (L:List EI):(Ck e L).length=L.length+1:=by
 induction L with
 |nil=>rfl
 |cons b B ih=>simp only [Ck];split <;>simp [ih]
theorem SU {e:EI} {L:List EI} (h:IA L):IA (Ck e L):=by
 induction L with
 |nil=>exact List.pairwise_singleton _ _
 |cons b B ih=>
  obtain ⟨h1,h2⟩:=List.pairwise_cons.1 h;simp only [Ck];split
  ·rename_i hl;refine List.pairwise_cons.2 ⟨fun x hx=>?_,h⟩;rcases ja.1 hx with rfl|hx
   ·exact Int.le_of_lt hl
   ·have:=h1 x hx;omega
  ·refine List.pairwise_cons.2 ⟨fun x hx=>?_,ih h2⟩;rcases Mw.1 hx with rfl|hx
   ·omega
   ·exact h1 x hx
theorem O7 {e:EI} {L:List EI} {i:Nat} (hi:i≤L.length) (h1:∀x∈L.take i,x.1≤e.1) (h2:∀x∈L.drop i,e.1<x.1):Ck e L=L.take i++e::L.drop i:=by
 induction L generalizing i with
 |nil=>simp [Ck]
 |cons b B ih=>
  cases i with
  |zero=>
   have:=h2 b (by simp);simp [Ck,this]
  |succ i=>
   have:=h1 b (by simp);simp only [Ck,List.take_succ_cons,List.drop_succ_cons,List.cons_append];rw [if_neg (by omega),ih (by simpa using hi) (fun x hx=>h1 x (by simp [hx])) (fun x hx=>h2 x (by simpa using hx))]
theorem TU (L:List EI) (n:Nat) (h:n≤L.length):(BN L n).length=n:=by
 induction n with
 |zero=>rfl
 |succ n ih=>rw [BN,jG (by omega)];simp only;rw [NC,ih (by omega)]
theorem NQ (L:List EI) (n:Nat):IA (BN L n):=by
 induction n with
 |zero=>exact List.Pairwise.nil
 |succ n ih=>
  rw [BN];split
  ·exact SU ih
  ·exact ih
def Ge (P:List EI) (R:List EI) (i:Nat) (X:List EI):Prop:=∃x,X=P.take i++x::(P.drop i++R)
theorem Ge.before {P R X:List EI} {i j:Nat} (h:Ge P R i X) (hi:i≤P.length) (hj:j<i) (hx:j<X.length):X[j]=P[j]'(by omega):=by
 obtain ⟨x,rfl⟩:=h;rw [List.getElem_append_left (by simp;omega),List.getElem_take]
theorem Ge.step {P R X:List EI} {i:Nat} (h:Ge P R (i+1) X) (hi:i<P.length):Ge P R i (X.set (i+1) P[i]):=by
 obtain ⟨x,rfl⟩:=h;refine ⟨P[i],?_⟩;have hl:(P.take (i+1)).length=i+1:=by simp;omega
 rw [List.set_append_right _ _ (by omega),hl,Nat.sub_self,List.set_cons_zero,jQ hi,List.append_assoc,List.drop_eq_getElem_cons (i:=i) hi];rfl
theorem Ge.fin {P R X:List EI} {i:Nat} {e:EI} (h:Ge P R i X) (hi:i≤P.length):X.set i e=P.take i++e::P.drop i++R:=by
 obtain ⟨x,rfl⟩:=h;have hl:(P.take i).length=i:=by simp;omega
 rw [List.set_append_right _ _ (by omega),hl,Nat.sub_self,List.set_cons_zero];simp
theorem Uk (L:List EI) (v:Value) (w:World) (hP:AR w v L) (hB:L.length≤65536):
  Calls Tryz.prog 185 #[v] w (Jp w (BN L L.length)):=by
 obtain ⟨i0,hi,hz0,hz1,hz2⟩:=info_parts Tryz.infoEI;go_enter Tryz.func185,Tryz.ntmps185;go_wp2_with (first|(at_builtin;refine Fn _ rfl _ _ 64 rfl w.heap.size 116 i0 (.agg #[.int .u64 0,.int .i64 0]) 2 16 Tryz.underlying64 hi hz0 hz1 hz2 rfl (by decide) _ 0 [] rfl ?o1 _ L.length (Bf L) rfl ?o2 ?c1 ?c2 ?c3 ?c4 ?c5 ?_))
 case o1=>exact World.ownsRow_lit w #[] 0 (jH _) (by decide) rfl
 case o2=>exact (hP.later ((jD w).step_alloc _)).src
 case c1=>exact Ps L
 case c2=>exact OD L
 case c3=>unfold maxLen;omega
 case c4=>omega
 case c5=>simp
 intro v2 w2 hown2 hgrow2;have hb2:Aa w w2:=((jD w).step_alloc _).grown hgrow2 (fun g hg=>by simp [Value.ownBlock] at hg;omega);have hown:AS w.heap.size w2 v2 L:=by unfold AS;simpa using hown2
 clear hown2 hgrow2;by_cases hL0:L.length=0
 ·have hLn:L=[]:=jS hL0;subst hLn
  have hsl:∃ao cap,v2= .slice ao 0 cap:=by
   rcases hown.2 with ⟨h,_⟩|⟨g,cap,cur,h,_⟩
   ·exact ⟨_,_,h⟩
   ·exact ⟨_,_,h⟩
  obtain ⟨ao,cap,rfl⟩:=hsl;have HO:=jp hown;clear hown hP;go_wp2;refine wp_loop_rounds 1 ?_;rw [rounds_succ];go_wp2;go_ret;exact ⟨_,rfl,hb2,HO.out⟩
 ·obtain ⟨g,cap,hv2,hg1,hg2⟩:=World.ownsRow.form hown (by omega);subst hv2;obtain ⟨N,hN⟩:∃N,N=L.length:=⟨_,rfl⟩;have hsl:=fun n h=>TU L n h
  have hss:=fun n=>NQ L n
  have hst:∀n (h:n<L.length),BN L (n+1)=Ck L[n] (BN L n):=fun n h=>by rw [BN,jG h]
  have h0:BN L 0=[]:=rfl;have hOX:Ds w.heap.size g cap w2 L:=hown;rw [←hN] at hL0 hB ⊢;rw [hN];generalize BN L=st at *;rw [←hN];have HN:=jp hN;have hsl:Hid (∀n,n≤N→(st n).length=n):=by rw [hN];exact hsl
  have hst:Hid (∀n (h:n<L.length),st (n+1)=Ck L[n] (st n)):=hst;have hss:Hid (∀n,IA (st n)):=hss;clear hown hP hN;go_wp2;go_loopg [12] N (fun r n wr=>Aa w wr∧∃(k:Nat) (X:List EI),r=N - k∧k≤N∧n= .int .i64 k∧Ds w.heap.size g cap wr X∧X=st k++L.drop k)
  case atStart=>exact ⟨hb2,0,L,by omega,by omega,rfl,hOX,by rw [h0];simp⟩
  case round=>
   obtain ⟨hb,k,X,hr,hk,rfl,hX,hXe⟩:=hrel;have hXl:X.length=N:=by rw [hXe,jO,hsl.out k hk,jh];have:=HN.out;omega
   clear hb2 hOX;by_cases hlt:k<N
   ·have hXk:X[k]'(by omega)=L[k]'(by have:=HN.out;omega):=by
     have h1:(st k).length=k:=hsl.out k (by omega);simp only [hXe];rw [List.getElem_append_right (by omega)];simp [h1]
    obtain ⟨c0,c1⟩:=hX.get k (by omega)
    rw [hXk] at c0 c1
    have HSt:=jp (hst.out k (by have:=HN.out;omega))
    have hsrt:=jp (hss.out k)
    have HPl:=jp (hsl.out k (by omega))
    have hMid:Hid (Ge (st k) (L.drop (k+1)) k X):=by
     refine ⟨L[k]'(by have:=HN.out;omega),hXe.trans ?_⟩;have h1:(st k).length=k:=HPl.out;rw [jR (by omega),List.drop_of_length_le (l:=st k) (by omega),List.nil_append,List.drop_eq_getElem_cons (by have:=HN.out;omega)]
    have HX:=jp hX
    have hXg:=(World.ownsRow.lt hX g rfl).2
    generalize hLk:L[k]'(by have:=HN.out;omega)=ek at *
    obtain ⟨pe,oe⟩:=ek
    simp only at c0 c1 HSt
    clear hX hXe hXk hst hss hLk hsl
    go_wp2
    obtain ⟨wb,hwb⟩:∃wb,wb=wr.alloc (.cells #[.int .u64 pe,.int .i64 oe] 116):=⟨_,rfl⟩
    have d0:wb.cell? ⟨wr.heap.size,0,none⟩=some (.int .u64 pe):=by rw [hwb];simp
    have d1:wb.cell? ⟨wr.heap.size,1,none⟩=some (.int .i64 oe):=by rw [hwb];simp
    have hbb:Aa w wb:=by rw [hwb];exact hb.step_alloc _
    have HXb:Hid (Ds w.heap.size g cap wb X):=by rw [hwb];exact World.ownsRow.alloc HX.out _
    rw [←hwb]
    generalize wr.heap.size=pb at *
    clear hwb hb c0 c1 HX
    go_loopg [6] k (fun r vi wr=>∃(i:Nat) (X':List EI),r=i∧i≤k∧vi= .int .i64 i∧Aa w wr∧wr.cell? ⟨pb,0,none⟩=some (.int .u64 pe)∧wr.cell? ⟨pb,1,none⟩=some (.int .i64 oe)∧Ds w.heap.size g cap wr X'∧X'.length=N∧Ge (st k) (L.drop (k+1)) i X'∧∀x∈(st k).drop i,pe<x.1)
    case atStart=>exact ⟨k,X,rfl,by omega,rfl,hbb,d0,d1,HXb.out,hXl,hMid.out,fun x hx=>by rw [List.drop_of_length_le (by have:=HPl.out;omega)] at hx;cases hx⟩
    case round=>
     obtain ⟨i,X',hri,hik,rfl,hbi,e0,e1,hX',hX'l,hMi,hGT⟩:=hrel
     have HMid:=jp hMi
     have HGT:=jp hGT
     have HX':=jp hX'
     have HX'l:=jp hX'l
     have hpl:=jF e0
     simp only at hpl
     clear hMi hGT hX' hX'l hMid HXb hbb d0 d1
     cases i with
     |zero=>
      have HLE:∀x∈(st k).take 0,x.1≤(pe,oe).1:=fun x hx=>by simp at hx
      clear hri
      have hfin:Hid (X'.set 0 (pe,oe)=st (k+1)++L.drop (k+1)):=by
       show List.set _ _ _=_;rw [HMid.out.fin (by have:=HPl.out;omega),HSt.out,O7 (i:=0) (by have:=HPl.out;omega) HLE HGT.out]
      have k1:=World.ownsRow.frozenAt HX'.out (0 * 2)
      have k2:=World.ownsRow.frozenAt HX'.out (0 * 2+1)
      obtain ⟨j1,j2⟩:=HX'.out.get 0 (by rw [HX'l.out];omega)
      generalize X'[0]'(by rw [HX'l.out];omega)=xi at *
      obtain ⟨xi1,xi2⟩:=xi
      simp only at j1 j2
      have hd0:decide ((0:Int)>0)=false:=rfl
      have hgw:g<pb:=hXg
      go_wp2_with fail
      go_quiet (fail)
      have hbq:=(jD wr).step_drewN nq
      have H9:=jp (Ds.set (BG HX'.out hbq:Ds w.heap.size g cap (wr.drewN nq) X') 0 pe oe)
      go_wp2
      go_roundg (N - (k+1))
      case measure=>omega
      case rel=>exact ⟨((hbi.step_drewN nq).step_set hg1 _).step_set hg1 _,k+1,_,rfl,by omega,by go_num,H9.out,hfin.out⟩
     |succ i=>
      obtain ⟨y0,y1⟩:=HX'.out.get i (by rw [HX'l.out];omega)
      have hiP:i<(st k).length:=by have:=HPl.out;omega
      rw [HMid.out.before (j:=i) (by omega) (by omega)] at y0 y1
      have hgw:g<pb:=hXg
      have hd0:decide (((i:Int)+1)>0)=true:=jL (by omega)
      have hwi:IntKind.i64.wrap ((i:Int)+1 - 1)=(i:Int):=by rw [IntKind.wrap_i64];omega
      have hwj:(i:Int)+1 - 1=(i:Int):=by omega
      by_cases hgt:pe<(st k)[i].1
      ·have hdg:decide ((st k)[i].1>pe)=true:=jL hgt
       have k1:=World.ownsRow.frozenAt HX'.out ((i+1) * 2)
       have k2:=World.ownsRow.frozenAt HX'.out ((i+1) * 2+1)
       obtain ⟨j1,j2⟩:=HX'.out.get (i+1) (by rw [HX'l.out];omega)
       have HMS:=jp (HMid.out.step hiP)
       have HG2:Hid (∀x∈(st k).drop i,pe<x.1):=by
        intro x hx;rw [List.drop_eq_getElem_cons hiP] at hx;rcases ja.1 hx with rfl|hx
        ·exact hgt
        ·exact HGT.out x hx
       generalize X'[i+1]'(by rw [HX'l.out];omega)=xi at *
       obtain ⟨xi1,xi2⟩:=xi
       simp only at j1 j2
       generalize (st k)[i]=pi at *
       obtain ⟨pp,po⟩:=pi
       simp only at y0 y1 hgt hdg
       go_wp2_with fail
       go_quiet (fail)
       have hbq:=(jD wr).step_drewN nq
       have H9:=jp (Ds.set (BG HX'.out hbq:Ds w.heap.size g cap (wr.drewN nq) X') (i+1) pp po)
       go_wp2
       go_roundg i
       case measure=>omega
       case rel=>exact ⟨i,X'.set (i+1) (pp,po),rfl,by omega,rfl,((hbi.step_drewN nq).step_set hg1 _).step_set hg1 _,by rw [Ad (Or.inl (by simp only;omega)),Ad (Or.inl (by simp only;omega))];exact hbq.cell e0,by rw [Ad (Or.inl (by simp only;omega)),Ad (Or.inl (by simp only;omega))];exact hbq.cell e1,H9.out,by rw [List.length_set];exact HX'l.out,HMS.out,HG2.out⟩
      ·have hdg:decide ((st k)[i].1>pe)=false:=jK hgt
       have HLE:∀x∈(st k).take (i+1),x.1≤(pe,oe).1:=by
        intro x hx;obtain ⟨j,hj,rfl⟩:=List.getElem_of_mem hx;simp only [jk] at hj;rw [List.getElem_take];by_cases hji:j=i
        ·subst hji;simp only;omega
        ·have:=List.pairwise_iff_getElem.1 hsrt.out j i (by omega) hiP (by omega);simp only;omega
       generalize hpi:(st k)[i]=pi at *
       obtain ⟨pp,po⟩:=pi
       simp only at y0 y1 hgt hdg
       have hfin:Hid (X'.set (i+1) (pe,oe)=st (k+1)++L.drop (k+1)):=by
        show List.set _ _ _=_;rw [HMid.out.fin (by have:=HPl.out;omega),HSt.out,O7 (i:=i+1) (by have:=HPl.out;omega) HLE HGT.out]
       have k1:=World.ownsRow.frozenAt HX'.out ((i+1) * 2)
       have k2:=World.ownsRow.frozenAt HX'.out ((i+1) * 2+1)
       obtain ⟨j1,j2⟩:=HX'.out.get (i+1) (by rw [HX'l.out];omega)
       generalize X'[i+1]'(by rw [HX'l.out];omega)=xi at *
       obtain ⟨xi1,xi2⟩:=xi
       simp only at j1 j2
       go_wp2_with fail
       go_quiet (fail)
       have hbq:=(jD wr).step_drewN nq
       have H9:=jp (Ds.set (BG HX'.out hbq:Ds w.heap.size g cap (wr.drewN nq) X') (i+1) pe oe)
       go_wp2
       go_roundg (N - (k+1))
       case measure=>omega
       case rel=>exact ⟨((hbi.step_drewN nq).step_set hg1 _).step_set hg1 _,k+1,_,rfl,by omega,by go_num,H9.out,hfin.out⟩
   ·obtain rfl:k=N:=by omega
    have hfin:Hid (X=st k):=by
     show X=st k;rw [hXe,List.drop_of_length_le (by have:=HN.out;omega),List.append_nil]
    have HX:=jp hX;clear hX hXe hst hss hsl;go_wp2;go_ret;exact ⟨_,rfl,hb,by rw [←HN.out,←hfin.out];have:=HX.out;unfold Ds sl at this;rw [hXl] at this;unfold AS;rw [hXl];exact this⟩
theorem WO (key:ByteArray) (letter:UInt8) (each:Int) (i:Nat) (b:BK):(DD key letter each i b).length=(each * b.2).toNat:=by simp [DD]
theorem L4 (key:ByteArray) (letter:UInt8) (each:Int) (B:List BK) (h2:each≤3) (hall:∀b∈B,0≤b.2∧b.2≤6) (n:Nat):(AW key letter each B n).length≤18 * n:=by
 induction n with
 |zero=>simp [AW]
 |succ n ih=>
  rw [AW];split
  ·rename_i b hb;rw [jO,WO];have hm:=List.mem_of_getElem? hb;obtain ⟨h3,h4⟩:=hall b hm;have:each * b.2≤3 * 6:=Int.mul_le_mul h2 h4 h3 (by omega);omega
  ·omega
theorem MV (key:ByteArray) (letter:UInt8) (each:Int) (B:List BK) (v:Value) (w:World) (hP:Am w v B) (hB:AL B) (hk:key.size=16) (he1:0≤each) (he2:each≤3):
  Calls Tryz.prog 142 #[.string key,.int .u8 (letter.toNat:Int),.int .i64 each,v] w (Jp w (Dk key letter each B)):=by
 obtain ⟨i0,hi,hz0,hz1,hz2⟩:=info_parts Tryz.infoEI;obtain ⟨h8,hall⟩:=hB;have hlen:=L4 key letter each B he2 (fun b hb=>(hall b hb).2.2);obtain ⟨ao,cap,rfl,hcell⟩:=hP.open;have hris:=fun v wx hx=>Uk (AW key letter each B B.length) v wx hx (by have:=hlen B.length;omega)
 obtain ⟨X,hX⟩:∃X,X=Dk key letter each B:=⟨_,rfl⟩;rw [←hX];rw [Dk] at hX;rw [←hX] at hris
 have hstep:∀i (h:i<B.length),AW key letter each B (i+1)=AW key letter each B i++DD key letter each i B[i]:=fun i h=>by
  rw [AW,jG h]
 have h0:AW key letter each B 0=[]:=rfl;clear hX;generalize AW key letter each B=pt at *;go_enter Tryz.func142,Tryz.ntmps142;go_wp2;go_loopg [9,16] B.length (fun r vL n wr=>Aa w wr∧∃k:Nat,r=B.length - k∧k≤B.length∧n= .int .i64 k∧AS w.heap.size wr vL (pt k))
 case atStart=>exact ⟨jD _,0,by omega,by omega,rfl,by rw [h0];exact World.ownsRow_nil _ _ _ _⟩
 case round=>
  obtain ⟨hb,k,hr,hkB,rfl,hL⟩:=hrel;have HO:=jp hL;clear hL;by_cases hlt:k<B.length
  ·obtain ⟨g,rfl,c0,c1⟩:=hcell k hlt;have c0':=hb.cell c0;have c1':=hb.cell c1;have HS:=jp (hstep k hlt);obtain ⟨hid1,hid,hw1,hw2⟩:=hall _ (jJ hlt);have hlk:=hlen k;clear hcell c0 c1 hstep hris hlen;generalize B[k]=bk at *;obtain ⟨idk,wk⟩:=bk;simp only at c0' c1' HS hid hw1 hw2 hid1;have hm1:0≤each * wk:=Int.mul_nonneg he1 hw1;have hm2:each * wk≤3 * 6:=Int.mul_le_mul he2 hw2 hw1 (by omega);obtain ⟨n,hn⟩:∃n:Nat,each * wk=(n:Int):=⟨(each * wk).toNat,by omega⟩;obtain ⟨pj,hpj⟩:∃pj:Nat→List EI,pj=fun j=>(List.range j).map fun i=>(Al key letter [i] idk,(k:Int)):=⟨_,rfl⟩
   have hp0:pj 0=[]:=by rw [hpj];rfl
   have hpl:∀j,(pj j).length=j:=fun j=>by rw [hpj];simp
   have hps:∀j,pj (j+1)=pj j++[(Al key letter [j] idk,(k:Int))]:=fun j=>by rw [hpj];simp only;rw [List.range_succ,List.map_append];rfl
   have HF:Hid (pt (k+1)=pt k++pj n):=by
    show _=_;rw [HS.out,hpj,DD,hn];rfl
   clear HS hpj;generalize pt k=L0 at *;obtain ⟨wb,hwb⟩:∃wb,wb=wr.alloc (.cells #[.string idk,.int .i64 wk] 75):=⟨_,rfl⟩;have d0:wb.cell? ⟨wr.heap.size,0,none⟩=some (.string idk):=by rw [hwb];simp
   have d1:wb.cell? ⟨wr.heap.size,1,none⟩=some (.int .i64 wk):=by rw [hwb];simp
   have hbb:Aa w wb:=by rw [hwb];exact hb.step_alloc _
   have hrow:Hid (∀g,Value.ownBlock u9=some g→w.heap.size≤g∧g<wr.heap.size):=World.ownsRow.lt HO.out;have HOb:Hid (AS w.heap.size wb u9 L0):=by rw [hwb];exact World.ownsRow.alloc HO.out _
   have hwpb:w.heap.size≤wr.heap.size:=hb.size;go_wp2;rw [←hwb];generalize wr.heap.size=pb at *;clear hwb hb c0' c1' HO;go_loopg [9,12] n (fun r vL vk wr=>∃j:Nat,r=n - j∧j≤n∧vk= .int .i64 j∧Aa w wr∧wr.cell? ⟨pb,0,none⟩=some (.string idk)∧wr.cell? ⟨pb,1,none⟩=some (.int .i64 wk)∧AS w.heap.size wr vL (L0++pj j)∧vL.ownBlock≠some pb)
   case atStart=>exact ⟨0,by omega,by omega,rfl,hbb,d0,d1,by rw [hp0,List.append_nil];exact HOb.out,fun e=>by have:=hrow.out _ e;omega⟩
   case round=>
    obtain ⟨j,hrj,hjn,rfl,hbj,e0,e1,hOj,hne⟩:=hrel;have hplt:=jF e0;simp only at hplt;have HJ:=jp hOj;have hwj:=hbj.size;have HNE:=jp hne;clear hOj HOb hrow hbb d0 d1 hne;by_cases hjl:j<n
    ·have HP:=jp (hps j);have hpjl:=hpl j;have hH:=fun wx=>F5 key letter [j] (.slice (some ⟨wx.heap.size,0,none⟩) 1 1) idk _ (Jl wx j) (by simp) (by omega) (by omega)
     clear hps hp0 hpl;generalize Al key letter [j] idk=x at *;generalize pj j=Lj at *;have hd:decide ((j:Int)<each * wk)=true:=jL (by omega);have hLL:(L0++Lj).length≤300:=by rw [jO];omega
     go_wp2_with fail;refine (hH _).mono ?_;rintro e w2 ⟨rfl,hb2⟩;have hb3:Aa wr w2:=(Aa.step_alloc (jD wr) _).trans hb2;have hbw:=hbj.trans hb3;have hO2:=jp (BG HJ.out hb3);have f0:=hb3.cell e0;have f1:=hb3.cell e1;have hw2:=hbw.size;have hs2:=hb3.size;clear hb2 hH HJ;generalize hLL2:L0++Lj=LL at *;have HLL:=jp hLL2;clear hLL2;go_wp2_with (first|(at_builtin;refine wpList_append_lies _ rfl _ _ 64 rfl w.heap.size 116 i0 (.agg #[.int .u64 0,.int .i64 0]) 2 16 Tryz.underlying64 hi hz0 hz1 hz2 rfl (by decide) _ LL.length (Bf LL) rfl ?p1 ⟨w2.heap.size,0,none⟩ 1 1 [.int .u64 x,.int .i64 (k:Int)] rfl rfl ?d1 ?d2 (by decide) ?d3 ?d4 ?d5 _ rfl ?_))
     case p1=>exact World.ownsRow.alloc hO2.out _
     try (case d1=>exact C8 _ _ _ _ _ (by simp))
     case d2=>first|exact ⟨rfl,rfl⟩|exact Df rfl rfl
     case d3=>unfold maxLen;omega
     case d4=>omega
     case d5=>first|omega|(simp;omega)
     intro g3 cap3 w3 hown3 hgrow3 hat3 hlt3;have hb4:Aa w w3:=(hbw.step_alloc _).grown hgrow3 (fun g hg=>(World.ownsRow.lt hO2.out g hg).1);have q0:w3.cell? ⟨pb,0,none⟩=some (.string idk):=JD hgrow3 ((Aa.step_alloc (jD w2) _).cell f0) HNE.out;have q1:w3.cell? ⟨pb,1,none⟩=some (.int .i64 wk):=JD hgrow3 ((Aa.step_alloc (jD w2) _).cell f1) HNE.out;have H3:=jp (AS.snoc (b:=(x,(k:Int))) hown3 rfl)
     have hn3:Hid (Value.ownBlock (.slice (some ⟨g3,0,none⟩) (LL.length+1) cap3)≠some pb):=by
      intro e;have e2:g3=pb:=by simpa [Value.ownBlock] using e
      rcases hat3 with h|h
      ·exact HNE.out (by rw [h,e2])
      ·first|omega|(simp at h;omega)
     clear hown3 hgrow3 hat3 hO2;go_wp2;go_roundg (n - (j+1))
     case measure=>omega
     case rel=>exact ⟨j+1,rfl,by omega,by go_num,hb4,q0,q1,by rw [HP.out,←List.append_assoc,HLL.out];exact H3.out,hn3.out⟩
    ·obtain rfl:j=n:=by omega
     have hd:decide ((j:Int)<each * wk)=false:=jK (by omega);clear hps hp0 hpl;go_wp2;go_roundg (B.length - (k+1))
     case measure=>omega
     case rel=>exact ⟨hbj,k+1,rfl,by omega,by go_num,by rw [HF.out];exact HJ.out⟩
  ·obtain rfl:k=B.length:=by omega
   clear hcell hstep;go_wp2_with fail;refine (hris _ _ HO.out.ents).mono ?_;rintro e w2 ⟨v2,rfl,hb2,hO2⟩;go_wp2;go_ret;exact ⟨_,rfl,hb.trans hb2,World.ownsRow.mono hO2 hb.size⟩
end Go.Proofs.YtpapdkhjdelfcabGreat
