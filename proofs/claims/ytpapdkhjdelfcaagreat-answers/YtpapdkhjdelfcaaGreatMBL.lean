import Derived.Test.YtpapdkhjdelfcaaGreatMBE
namespace Go.Proofs.YtpapdkhjdelfcaaGreat
open Go.RowKit
set_option maxRecDepth 100000
set_option maxHeartbeats 4000000
def Rm (sh:List Int) (R j:Nat) (Q:List Int):Prop:=Q.length=sh.length/\∀i,i<sh.length->Q.getD i 0=if i<j then max (sh.getD i 0 - (R+1)) 0 else max (sh.getD i 0 - R) 0
def Cq (W:List (Int×Int)) (sh b:List Int) (B:List BK) (R j:Nat) (Q:List Int) (a:List ByteArray):Prop:=Rm sh R j Q/\a=(Bu W sh R (CD W sh b R) j).map (A7 B)/\LB B.length (Bu W sh R (CD W sh b R) j)
theorem WC {p:Nat->Bool} {f:Nat->Nat} {n k:Nat} (a:k<n) (b:p (f k)=true) (c:∀j,j<k->p (f j)=false):((List.range n).map f).find? p=some (f k):=by
 rw [List.find?_map]
 have:(List.range n).find? (p ∘ f)=some k:=by
  rw [List.find?_range_eq_some];exact ⟨b,by simpa using a,fun j d=>by simp [c j d]⟩
 rw [this];rfl
theorem OV {B:List BK} (b:AL B) {x:Int} (h:x= -1\/∃i:Nat,i<B.length/\x=(i:Int)):(A7 B x).size=0↔x<0:=by
 rcases h with rfl|⟨i,a,rfl⟩
 .exact ⟨fun _=>by decide,fun _=>rfl⟩
 .rw [IY a];have:=(b.2 _ (jJ a)).1;constructor
  .intro h;omega
  .intro h;omega
theorem LB.at {l:Nat} {S:List Int} (h:LB l S) {k:Nat} (a:k<S.length):S.getD k 0= -1\/∃i:Nat,i<l/\S.getD k 0=(i:Int):=by
 rw [jV,jG a];exact h _ (jJ a)
theorem Cq.skip {W:List (Int×Int)} {sh c:List Int} {B:List BK} {R j:Nat} {Q:List Int} {a:List ByteArray} (h:Cq W sh c B R j Q a) (l:j<sh.length) (f:Q.getD j 0=0):Cq W sh c B R (j+1) Q a:=by
 obtain ⟨⟨m,g⟩,n,o⟩:=h;have p:=g j l;rw [if_neg jo,f] at p;have d:sh.getD j 0<=R:=jo
 have k:Bu W sh R (CD W sh c R) (j+1)=Bu W sh R (CD W sh c R) j:=by rw [Bu,if_pos d]
 refine ⟨⟨m,fun i q=>?_⟩,by rw [k];exact n,by rw [k];exact o⟩;have:=g i q;by_cases b:i<j
 .rw [if_pos b] at this;rw [if_pos jo];exact this
 .by_cases r:i=j
  .subst r;rw [if_pos jo,f];omega
  .rw [if_neg b] at this;rw [if_neg jo];exact this
theorem Cq.turn {W:List (Int×Int)} {sh n:List Int} {B:List BK} {R j:Nat} {Q:List Int} {a:List ByteArray} {k:Nat} {wy:Int×Int} (h:Cq W sh n B R j Q a) (s:AL B) (z:j<sh.length) (g:j<B.length) (F:¬Q.getD j 0=0) (A:W.getD j (0,0)=wy) (t:k<a.length) (c:∀i,A0 a.length wy i<a.length)
  (b:(a.getD (A0 a.length wy k) ByteArray.empty).size=0) (f:∀i,i<k->¬(a.getD (A0 a.length wy i) ByteArray.empty).size=0):Cq W sh n B R (j+1) (Q.set j (Q.getD j 0 - 1)) (a.set (A0 a.length wy k) B[j].1):=by
 obtain ⟨⟨C,u⟩,o,p⟩:=h;have v:=u j z;rw [if_neg jo] at v;have q:¬sh.getD j 0<=R:=jo
 generalize D:Bu W sh R (CD W sh n R) j=S at o p;have E:a.length=S.length:=by rw [o,je]
 have d:∀i,i<S.length->a.getD i ByteArray.empty=A7 B (S.getD i 0):=fun i l=>by
  rw [o,jV,jV,List.getElem?_map,jG l];rfl
 rw [E] at t c b f |-
 have r:EF S wy=some (A0 S.length wy k):=by
  unfold EF;refine WC t ?_ (fun i l=>?_)
  .rw [decide_eq_true_eq];rw [d _ (c k)] at b;exact (OV s (p.at (c k))).1 b
  .rw [decide_eq_false_iff_not];have:=f i l;rw [d _ (c i)] at this;exact fun e=>this ((OV s (p.at (c i))).2 e)
 have w:Bu W sh R (CD W sh n R) (j+1)=S.set (A0 S.length wy k) (j:Int):=by
  rw [Bu,if_neg q,D];unfold FP;rw [A,r]
 refine ⟨⟨by rw [List.length_set];exact C,fun i l=>?_⟩,?_,?_⟩
 .have:=u i l;rw [KZ _ _ _ _ jo];by_cases m:i=j
  .subst m;rw [if_pos rfl,if_pos jo,v];omega
  .rw [if_neg m,this];by_cases y:i<j
   .rw [if_pos y,if_pos jo]
   .rw [if_neg y,if_neg jo]
 .rw [w,List.map_set,<-o,IY g]
 .rw [w];intro x hx;rcases List.mem_or_eq_of_mem_set hx with h|h
  .exact p x h
  .exact Or.inr ⟨j,g,h⟩
theorem Cq.next {W:List (Int×Int)} {sh b:List Int} {B:List BK} {R:Nat} {Q:List Int} {a:List ByteArray} (h:Cq W sh b B R sh.length Q a):Cq W sh b B (R+1) 0 Q a:=by
 obtain ⟨⟨d,f⟩,g,k⟩:=h;refine ⟨⟨d,fun i c=>?_⟩,g,k⟩;have:=f i c;rw [if_pos c] at this;rw [if_neg jo,this];push_cast;rfl
theorem R5 {W:List (Int×Int)} {sh:List Int} {R:Nat} {S:List Int} (h:∀i,i<sh.length->sh.getD i 0<=R):∀n,n<=sh.length->Bu W sh R S n=S:=by
 intro n
 induction n with
 |zero=>intro _;rfl
 |succ n ih=>
  intro a;rw [Bu,if_pos (h n jo)];exact ih jo
theorem MW {W:List (Int×Int)} {sh c:List Int} {a:Nat} (h:∀i,i<sh.length->sh.getD i 0<=a) (b:Nat) (d:a<=b):CD W sh c b=CD W sh c a:=by
 induction b with
 |zero=>rw [show a=0 by omega]
 |succ b ih=>
  by_cases f:a=b+1
  .rw [f]
  .rw [CD,R5 (fun i g=>by have:=h i g;omega) _ (jH _)];exact ih jo
theorem Cq.done {W:List (Int×Int)} {sh b:List Int} {B:List BK} {R:Nat} {Q:List Int} {a:List ByteArray} {n:Nat} (h:Cq W sh b B R 0 Q a) (d:∀x∈Q,x=0) (f:∀i,i<sh.length->sh.getD i 0<=n):a=(CD W sh b n).map (A7 B):=by
 obtain ⟨⟨o,g⟩,k,p⟩:=h
 have l:∀i,i<sh.length->sh.getD i 0<=R:=fun i m=>by
  have:=g i m;rw [if_neg jo] at this
  have q:Q.getD i 0=0:=by
   rw [jV,jG jo];exact d _ (jJ _)
  omega
 rw [k];show (CD W sh b R).map _=_;rcases Nat.le_total R n with c|c
 .rw [MW l n c]
 .rw [MW f R c]
theorem Cq.start {W:List (Int×Int)} {sh:List Int} {B:List BK} {n:Nat} (h:∀x∈sh,0<=x):Cq W sh (List.replicate n (-1)) B 0 0 sh (List.replicate n ByteArray.empty):=by
 refine ⟨⟨rfl,fun i a=>?_⟩,?_,fun x hx=>Or.inl (List.eq_of_mem_replicate hx)⟩
 .rw [if_neg jo]
  have:0<=sh.getD i 0:=by
   rw [jV,jG a];exact h _ (jJ a)
  push_cast;omega
 .show _=(List.replicate n (-1)).map _;rw [List.map_replicate];rfl
theorem Zg {c:Ac} {B:List BK} {a:List ByteArray} (b:c.alg=1) (d:1<=As B) (h:a=(F3 c B).map (A7 B)):BU c B (CG a):=by
 unfold BU An;rw [if_neg jo,if_pos b,h];unfold CG;rw [List.map_map,List.map_map,List.map_map];rfl
theorem Yd {c:Ac} {B:List BK} {j:Nat} (a:j<B.length):(B.map (Cr c)).getD j (0,0)=Cr c B[j]:=by
 rw [jV,List.getElem?_map,jG a];rfl
theorem Qr {n:Nat} (a:0<n) (wy:Int×Int) (i:Nat):A0 n wy i<n:=by
 unfold A0;have b:=Int.emod_lt_of_pos (wy.1+(i:Int) * wy.2) (show (0:Int)<(n:Int) by omega);have c:=Int.emod_nonneg (wy.1+(i:Int) * wy.2) (show (n:Int)≠0 by omega);omega
theorem OC {L:List ByteArray} {k:Nat} (h:k<L.length):L.getD k ByteArray.empty=L[k]:=by
 rw [jV,jG h];rfl
theorem JY {L:List Int} {k:Nat} (h:k<L.length):L.getD k 0=L[k]:=by
 rw [jV,jG h];rfl
theorem Xf (c:Ac) (vB:ju) (B:List BK) (w:jj) (hc:c.OK) (hP:Am w vB B) (hB:AL B) (bx:c.alg=1):
  Calls Tryz.prog 162 #[.agg c.cells,vB] w (Fx w c B):=by
 have dh:=jp hB;obtain ⟨i0,hi,di,dj,dk⟩:=info_parts Tryz.infoEN;have f4:Hid c.OK:=hc;obtain ⟨dl,bc,ar,Z⟩:3<=c.slots/\c.slots<=211/\(∀d:Nat,2<=d->(d:Int)<c.slots->c.slots % d≠0)/\c.key.size=16:=⟨hc.2.2.1,hc.2.2.2.1,hc.2.2.2.2.1,hc.2.2.2.2.2.2.2.2.2.1⟩;obtain ⟨n,hn⟩:∃n:Nat,c.slots=(n:Int):=⟨c.slots.toNat,by omega⟩
 have dm : Hid (∀ d : Nat, 2 <= d -> d < n -> n % d ≠ 0) := fun d O h2 h3 => ar d O (by omega) (by
   rw [hn]
   have : (n : Int) % (d : Int) = ((n % d : Nat) : Int) := by simp
   rw [this, h3]; rfl)
 have aa:=fun wx (b:Aa w wx)=>Ug B vB n wx (hP.later b) hB (by omega) (by omega)
 obtain ⟨l,ab⟩:∃l,l=DJ n B:=⟨_,rfl⟩
 have V:Hid (l.length=B.length/\(∀x∈l,0<=x)/\((l.sum=0/\∀x∈l,x=0)\/(l.sum=n/\1<=As B))):=by
  rw [ab];exact ⟨QK _ _,XJ _ _ (by omega) hB,Vt _ _ (by omega) hB⟩
 rw [<-ab] at aa
 have dn:Hid (l.sum=0->BU c B []):=fun h=>by
  refine BU.none ?_;rcases Int.lt_or_le (As B) 1 with O|O
  .exact O
  .have h2:=(Ma (n:Int) B (by omega) (fun b hb=>(hB.2 b hb).2.2.1) O).1;have h3:DJ (n:Int) B=CJ (n:Int) B:=by unfold DJ;rw [if_neg (by omega)]
   rw [ab,h3,h2] at h;omega
 have bz:Hid (1<=As B->l.sum=n->∀f Q R,(∀x∈Q,x=0)->Cq (B.map (Cr c)) l (List.replicate n (-1)) B R 0 Q f->BU c B (CG f)):=fun hw hs f Q R hz hm=>by
  refine Zg bx hw ?_;have h3:l=CJ c.slots B:=by rw [ab,hn];unfold DJ;rw [if_neg (by omega)]
  have h4 := hm.done hz (n := n) (fun i hi => by
    have h5 := (GW V.out.2.1).1 _ (jJ hi)
    rw [JY hi]
    omega)
  rw [h4];unfold F3;rw [<-h3,hn];rfl
 have bd:Hid (∀j (h:j<B.length),(B.map (Cr c)).getD j (0,0)=(Al c.key 111 [] B[j].1 % (n:Int),Al c.key 115 [] B[j].1 % ((n:Int) - 1)+1)):=fun j h=>by
  rw [Yd h];unfold Cr Cv;rw [hn,if_neg (by omega),if_neg (by omega)]
 obtain ⟨WS,b1⟩:∃X,X=B.map (Cr c):=⟨_,rfl⟩;rw [<-b1] at bz bd;clear b1 bx;obtain ⟨f5,fu,rfl,b5⟩:=hP.open;obtain ⟨h8,au⟩:=hB;have b6:=jp au;have dp:=jp b5;have HC:Hid (c.slots=(n:Int)):=hn;clear ab hP au b5 hc ar;obtain ⟨alg,dq,t,u,key,m⟩:=c;simp only at hn dl bc Z bd;subst hn;simp only [Ac.cells];go_enter Tryz.func162,Tryz.ntmps162;go_wp2_with fail;have ac:(w.alloc (.cells #[.int .i64 alg,.int .i64 (n:Int),.int .i64 t,.int .i64 u,.string key,.int .i64 m] 30)).cell? ⟨w.heap.size,1,none⟩=some (.int .i64 (n:Int)):=by simp
 have be:(w.alloc (.cells #[.int .i64 alg,.int .i64 (n:Int),.int .i64 t,.int .i64 u,.string key,.int .i64 m] 30)).cell? ⟨w.heap.size,4,none⟩=some (.string key):=by simp
 have A:Aa w (w.alloc (.cells #[.int .i64 alg,.int .i64 (n:Int),.int .i64 t,.int .i64 u,.string key,.int .i64 m] 30)):=jq
 have fv:w.heap.size<(w.alloc (.cells #[.int .i64 alg,.int .i64 (n:Int),.int .i64 t,.int .i64 u,.string key,.int .i64 m] 30)).heap.size:=by simp
 generalize w.alloc (.cells #[.int .i64 alg,.int .i64 (n:Int),.int .i64 t,.int .i64 u,.string key,.int .i64 m] 30)=W at *;generalize f6:w.heap.size=px at *;refine (aa W A).mono ?_;rintro e w1 ⟨vq,rfl,an,hO⟩;clear aa;have d1:=an.cell ac;have dr:=an.size;go_wp2_with (first|(at_make;refine wpList_make_full _ rfl _ _ 83 rfl W.heap.size 146 i0 (.agg #[.string ByteArray.empty,.int .i64 0,.int .i64 0]) 3 Tryz.underlying83 hi di dj _ _ _ _ n rfl rfl rfl rfl ?b2 ?b3 ?b4 ?_))
 case b2=>first|omega|(rw [dk];omega)
 case b3=>unfold maxLen;omega
 case b4=>exact dr
 intro w2 ad b7;have bf:Aa w1 w2:=(jD _).grown b7 (fun g hg=>by cases hg);have hN:=DG.made ad;have bg:=hO.later bf;have av:=World.ownsRow.lt hO;generalize w1.heap.size=go at *;have aw:Aa W w2:=an.trans bf;clear ad b7 hO d1 an bf;obtain ⟨aq,cq,rfl,ae⟩:=(BS.row bg).open;go_wp2;go_loopg [7,8] l.length (fun r s i wr=>w2=wr/\∃k:Nat,r=l.length - k/\k<=l.length/\i= .int .i64 k/\s= .int .i64 ((l.take k).sum))
 case atStart=>exact ⟨rfl,0,by omega,by omega,rfl,by simp⟩
 case round=>
  obtain ⟨rfl,k,hr,hk,rfl,rfl⟩:=hrel;have f7:l.length<=8:=by have:=V.out.1;omega
  have b8:l.sum<=211:=by rcases V.out.2.2 with ⟨h,_⟩|⟨h,_⟩<;>omega
  obtain ⟨ax,ay⟩:=MZ V.out.2.1 k;by_cases ao:k<l.length
  .obtain ⟨K,rfl,q1⟩:=ae k ao
   have Y:Hid ((l.take (k+1)).sum=(l.take k).sum+l[k]):=by
    show (l.take (k+1)).sum=_;rw [jQ ao,List.sum_append];simp
   obtain ⟨b9,ca⟩:=MZ V.out.2.1 (k+1);rw [Y.out] at b9 ca;have f8:=V.out.2.1 _ (jJ ao);clear ae;generalize l[k]=qk at *;generalize (l.take k).sum=sk at *;go_wp2;go_roundg (l.length - (k+1))
   case measure=>omega
   case rel=>exact ⟨rfl,k+1,rfl,by omega,by go_num,by rw [Y.out]⟩
  .have L:(l.take k).sum=l.sum:=by rw [jR (by omega)]
   rw [L];have ds:decide ((k:Int)<(l.length:Int))=false:=jK (by omega);rcases V.out.2.2 with ⟨h0, -⟩|⟨P,dt⟩
   .have du:=jp (dn.out h0);rw [h0];clear ae L ax ay b8;go_wp2;go_ret;exact ⟨_,[],rfl,A.trans aw,⟨Or.inl ⟨rfl,rfl,rfl⟩,fun g hg=>(by cases hg)⟩,by simp,(fun x hx=>(by cases hx)),fun _=>Or.inl rfl,du.out⟩
   .rw [P]
    have az:0<l.length:=by
     rcases Nat.eq_zero_or_pos l.length with h|h
     .have:=List.length_eq_zero_iff.1 h;rw [this] at P;simp at P;omega
     .exact h
    obtain ⟨K,dv, -⟩:=ae 0 az;subst dv;have dw:=av K rfl
    have cb : Hid (IU W B K cq go n l (List.replicate n ByteArray.empty) w2) := ⟨aw, bg, hN, by omega, V.out.1, by simp, V.out.2.1, fun s hs => Or.inl (by rw [List.eq_of_mem_replicate hs]; rfl), by
      rw [P]
      have : emp (List.replicate n ByteArray.empty) = n := by
        unfold emp
        rw [List.countP_eq_length.2 (fun x hx => by rw [List.eq_of_mem_replicate hx]; rfl), List.length_replicate]
      rw [this]⟩
    have cc:Hid (Cq WS l (List.replicate n (-1)) B 0 0 l (List.replicate n ByteArray.empty)):=Cq.start V.out.2.1;have cd:Hid (∀f Q R,(∀x∈Q,x=0)->Cq WS l (List.replicate n (-1)) B R 0 Q f->BU ⟨alg,(n:Int),t,u,key,m⟩ B (CG f)):=bz.out dt P;have f9:((n:Int)==0)=false:=by rw [jI];omega
    have HL:Hid (l.length=B.length):=V.out.1;clear ae L ax ay b8 av dw bg hN P az V;rw [HL.out] at ds ao hk hr |-;go_wp2;go_loopg [7] n (fun r s wr=>∃Q f,s= .int .i64 (emp f:Nat)/\r=emp f/\IU W B K cq go n Q f wr/\∃R,Cq WS l (List.replicate n (-1)) B R 0 Q f)
    case atStart=>
     have ce:emp (List.replicate n ByteArray.empty)=n:=by
      unfold emp;rw [List.countP_eq_length.2 (fun x hx=>by rw [List.eq_of_mem_replicate hx];rfl),List.length_replicate]
     exact ⟨l,_,by rw [ce],by rw [ce],cb.out,0,cc.out⟩
    case round=>
     clear cb cc;obtain ⟨Q,f,rfl,rfl,q,R,hM⟩:=hrel;have HM:=jp hM;clear hM;by_cases hE:0<emp f
     .have dx:decide (((emp f:Nat):Int)>0)=true:=jL (by omega);have Y:=jp q;clear q;generalize cf:emp f=E0 at *;have bh:=jp cf;clear cf;go_wp2;go_loopg [7,9] B.length (fun r s i wx=>∃(j:Nat) (Q':List Int) (G:List ByteArray),r=B.length - j/\j<=B.length/\i= .int .i64 j/\s= .int .i64 (emp G:Nat)/\IU W B K cq go n Q' G wx/\emp G<=E0/\(emp G=E0->∀i (h:i<Q'.length),i<j->Q'[i]=0)/\Cq WS l (List.replicate n (-1)) B R j Q' G)
      case atStart=>exact ⟨0,Q,f,by omega,by omega,rfl,by rw [bh.out],Y.out,by rw [bh.out];exact jH _,fun _ i _ h=>(by omega),HM.out⟩
      case round=>
       clear Y bh HM Q f;obtain ⟨j,Q,f,dy,hj,rfl,rfl,q,dz,v,hM⟩:=hrel;have HM:=jp hM;clear hM;by_cases D:j<B.length
       .have cg:decide ((j:Int)<(B.length:Int))=true:=jL (by omega);have E:j<Q.length:=by rw [q.2.2.2.2.1];exact D
        have q1:wr.cell? ⟨K,j,none⟩=some (.int .i64 Q[j]):=(World.ownsRow.cellAt q.2.1 j (by omega)).trans (by rw [List.getElem?_map,jG E];rfl);have f1:=World.ownsRow.frozenAt q.2.1 j;have ga:=q.2.2.2.2.2.2.1 _ (jJ E);have Y:=jp q;have HZ:=jp v;by_cases af:Q[j]=0
        .have d0:(Q[j]==0)=true:=by rw [af];rfl
         have HN:Hid (emp f=E0->∀i (h:i<Q.length),i<j+1->Q[i]=0):=fun e i O h2=>by
          by_cases d2:i=j
          .subst d2;exact af
          .exact HZ.out e i O (by omega)
         have bi:Hid (Cq WS l (List.replicate n (-1)) B R (j+1) Q f):=HM.out.skip (by rw [HL.out];exact D) (by rw [JY E];exact af);clear q v;generalize Q[j]=qj at *;go_wp2;go_roundg (B.length - (j+1))
         case measure=>omega
         case rel=>exact ⟨j+1,Q,f,rfl,by omega,by go_num,rfl,Y.out,dz,HN.out,bi.out⟩
        .have d0:(Q[j]==0)=false:=by rw [jI];exact af
         obtain ⟨gB,rfl,b0, -⟩:=dp.out j D;obtain ⟨a1,a2, -, -⟩:=b6.out _ (jJ D);have ch:Hid (∃b∈B,b.1=B[j].1):=⟨B[j],jJ D,rfl⟩
         have gb:Q[j]<=211:=by
          have O:=(GW q.2.2.2.2.2.2.1).1 _ (jJ E);have h2:=q.2.2.2.2.2.2.2.2;have h3:emp f<=f.length:=List.countP_le_length;have h4:=q.2.2.2.2.2.1;omega
         have ci:=(World.ownsRow.lt q.2.1 K rfl).1;have bj:=World.ownsRow.stored q.2.1 j (.int .i64 (Q[j] - 1))
         have cj:Hid (BS W.heap.size (wr.setCell ⟨K,j,none⟩ (.int .i64 (Q[j] - 1))) (sl K (Q.set j (Q[j] - 1)).length cq) (Q.set j (Q[j] - 1))):=by
          have:=bj.1;unfold Hid BS;rw [sl,List.length_set,List.map_set];exact this
         have ck : Hid (DG W.heap.size go (wr.setCell ⟨K, j, none⟩ (.int .i64 (Q[j] - 1))) f) := Ir q.2.2.1 bj.2 (by
           have := q.2.2.2.1
           simp [sl, Value.ownBlock]
           omega)
         have H:Aa W (wr.setCell ⟨K,j,none⟩ (.int .i64 (Q[j] - 1))):=q.1.step_set (p:=⟨K,j,none⟩) ci _
         have bk:Hid ((Q.set j (Q[j] - 1)).length=B.length/\(∀x∈Q.set j (Q[j] - 1),0<=x)/\(Q.set j (Q[j] - 1)).sum=Q.sum - 1):=by
          refine ⟨by rw [List.length_set];exact q.2.2.2.2.1,fun x hx=>?_,?_⟩
          .rcases List.mem_or_eq_of_mem_set hx with h|h
           .exact q.2.2.2.2.2.2.1 x h
           .omega
          .rw [LP _ _ _ E,jV,jG E];simp only [Option.getD_some];omega
         have HR:Hid (K≠go/\f.length=n/\(∀s∈f,I8 B s)/\Q.sum=emp f):=⟨q.2.2.2.1,q.2.2.2.2.2.1,q.2.2.2.2.2.2.2.1,q.2.2.2.2.2.2.2.2⟩
         have gc:1<=emp f:=by
          have O:=(GW q.2.2.2.2.2.2.1).1 _ (jJ E);have h2:=q.2.2.2.2.2.2.2.2;omega
         have d3:emp f<=211:=by
          have h3:emp f<=f.length:=List.countP_le_length;have h4:=q.2.2.2.2.2.1;omega
         have d4:Hid (∀(k:Nat) (wy:Int×Int),WS.getD j (0,0)=wy->k<f.length->(f.getD (A0 n wy k) ByteArray.empty).size=0->(∀i,i<k->¬(f.getD (A0 n wy i) ByteArray.empty).size=0)->Cq WS l (List.replicate n (-1)) B R (j+1) (Q.set j (Q[j] - 1)) (f.set (A0 n wy k) B[j].1)):=fun k wy e1 e2 e3 e4=>by
          have e5:=q.2.2.2.2.2.1;have:=HM.out.turn (k:=k) (wy:=wy) dh.out (by rw [HL.out];exact D) D (by rw [JY E];exact af) e1 e2 (fun i=>Qr (by omega) wy i) (by rw [e5];exact e3) (by rw [e5];exact e4);rw [JY E,e5] at this;exact this
         have cl:=jp (bd.out j D);clear q v Y HZ bj;generalize Q[j]=qj at *;generalize Q.set j (qj - 1)=Q2 at *;generalize B[j].1=o at *;obtain ⟨HO,bl⟩:∃X,X=Al key 111 [] o:=⟨_,rfl⟩;obtain ⟨S,ag⟩:∃X,X=Al key 115 [] o:=⟨_,rfl⟩;rw [<-bl,<-ag] at cl;have d5:Hid (Cs key (⟨#[111]⟩++o)=HO):=by show _=HO;rw [bl];exact Ki key 111 o
         have d6:Hid (Cs key (⟨#[115]⟩++o)=S):=by show _=S;rw [ag];exact Ki key 115 o
         clear bl ag;generalize cm:emp f=Em at *;have cn:=jp cm;clear cm;go_upto_region 17 with fail
         generalize wr.setCell ⟨K,j,none⟩ (.int .i64 (qj - 1))=w3 at *;have bm:=(A.trans H).cell b0;have x1:=H.cell ac;have x4:=H.cell be;have d7:gB<w3.heap.size:=jF bm;have co:px<w3.heap.size:=jF x4;go_cut [10] (fun u10 wc=>AX w3.heap.size wc u10 HO/\Aa w3 wc)
         case first=>
          go_region_with (go_at_call 114;refine (F2 _ _ _ Z (by simp only [jY,show (({data:=#[111]}:jt)).size=1 from rfl];omega)).mono ?_;rintro e w4 ⟨z0,z1,rfl,bn,g0,g1,ez⟩;obtain ⟨ah,ai⟩:=bn.cells)
          all_goals
           have EZ:Hid (wv z0 z1=HO):=by
            have bo:wv z0 z1=Cs key (⟨#[111]⟩++o):=ez;show wv z0 z1=HO;rw [bo,d5.out]
           clear ez;go_wp2;go_meet
           case rel=>
            have M:Aa w3 w4:=jq
            first
             |exact ⟨AX.new M.size g0 g1 EZ.out _,M.step_alloc _⟩
             |exact ⟨AX.stored (jH _) ((ah _ _ (by simp)).trans (by simp;rfl)) ((ah _ _ (by simp)).trans (by simp;rfl)) ((ai _ _ (by simp)).trans (by simp)) ((ai _ _ (by simp)).trans (by simp)) g0 g1 EZ.out,(M.step_set (p:=⟨w3.heap.size,0,none⟩) (jH _) _).step_set (p:=⟨w3.heap.size,1,none⟩) (jH _) _⟩
         case rest=>
          obtain ⟨bp,T⟩:=hcut;obtain ⟨d8,d9,fa,rfl,fw,aj,a0, -, -,cp,cr,a3⟩:=bp;have cs:=jp a3;clear a3;have bq:=T.cell bm;have ct:=T.cell x1;have cu:=T.cell x4;have cv:gB<wc.heap.size:=jF bq;have cw:px<wc.heap.size:=jF cu;have fb:d8<wc.heap.size:=jF aj;clear bm x1 x4 d7 co;go_upto_region 18 with fail
          generalize wc=w5 at *;go_cut [11] (fun u11 wc=>AX w5.heap.size wc u11 S/\Aa w5 wc)
          case first=>
           go_region_with (go_at_call 114;refine (F2 _ _ _ Z (by simp only [jY,show (({data:=#[115]}:jt)).size=1 from rfl];omega)).mono ?_;rintro e w4 ⟨z0,z1,rfl,bn,g0,g1,ez⟩;obtain ⟨ah,ai⟩:=bn.cells)
           all_goals
            have EZ:Hid (wv z0 z1=S):=by
             have bo:wv z0 z1=Cs key (⟨#[115]⟩++o):=ez;show wv z0 z1=S;rw [bo,d6.out]
            clear ez;go_wp2;go_meet
            case rel=>
             have M:Aa w5 w4:=jq
             first
              |exact ⟨AX.new M.size g0 g1 EZ.out _,M.step_alloc _⟩
              |exact ⟨AX.stored (jH _) ((ah _ _ (by simp)).trans (by simp;rfl)) ((ah _ _ (by simp)).trans (by simp;rfl)) ((ai _ _ (by simp)).trans (by simp)) ((ai _ _ (by simp)).trans (by simp)) g0 g1 EZ.out,(M.step_set (p:=⟨w5.heap.size,0,none⟩) (jH _) _).step_set (p:=⟨w5.heap.size,1,none⟩) (jH _) _⟩
          case rest=>
           obtain ⟨br,N⟩:=hcut;obtain ⟨gd,fc,fd,rfl,fx,a4,a5, -, -,cx,cy,a6⟩:=br;have cz:=jp a6;clear a6;have c0:=N.cell aj;have c1:=N.cell a0;have c2:=N.cell bq;have c3:=N.cell ct;have c4:=jp ((cj.out.later T).later N);have c5:=jp ((ck.out.later T).later N);have a7:=(H.trans T).trans N;clear aj a0 bq ct cu cv cw cj ck H;go_wp2_with fail;refine (LK _ _ _ _ cp cr (by omega) (by omega)).mono ?_;rintro e w6 ⟨z,rfl,I,a8⟩
           have bs:Hid (z=HO % (n:Int)):=by
            have:z=wv d9 fa % (n:Int):=a8;rw [cs.out] at this;exact this
           have a9:0<=z:=by rw [bs.out];exact Int.emod_nonneg _ (by omega)
           have c6:z<(n:Int):=by rw [bs.out];exact Int.emod_lt_of_pos _ (by omega)
           clear a8;have bt:=I.cell a4;have bu:=I.cell a5;have c7:=I.cell c2;have c8:=I.cell c3;have fe:wrap64 ((n:Int) - 1)=(n:Int) - 1:=by unfold wrap64;omega
           go_wp2_with fail;refine (LK _ _ _ _ cx cy (by omega) (by omega)).mono ?_;rintro e w7 ⟨F,rfl,U,ak⟩
           have bv:Hid (F=S % ((n:Int) - 1)):=by
            have:F=wv fc fd % ((n:Int) - 1):=ak;rw [cz.out] at this;exact this
           have fy:0<=F:=by rw [bv.out];exact Int.emod_nonneg _ (by omega)
           have fz:F<(n:Int) - 1:=by rw [bv.out];exact Int.emod_lt_of_pos _ (by omega)
           clear ak;have ge:=U.cell c7;have gf:=U.cell c8;have c9:=(c5.out.later I).later U;have da:=jp ((c4.out.later I).later U);have db:=(a7.trans I).trans U;clear a4 a5 bt bu c0 c1 c2 c3 c7 c8 c4 c5 a7 I U fe;obtain ⟨ff,ba,al,gg⟩:=HR.out;obtain ⟨iz,gh,gi,hz⟩:=Qy ba dm.out (by omega) z (F+1) a9 (by omega) (by omega) (by rw [cn.out];omega);have HZ:=jp hz;have dc:=jp al;have am:=jp c9;have dd:=RL (s:=F+1) a9 c6;have HY:Hid (∀k,((A0 n (z,F+1) (k+1):Nat):Int)=((A0 n (z,F+1) k:Nat)+(F+1)) % n/\A0 n (z,F+1) k<n):=fun k=>⟨T2 (by omega) _ _ _,K9 _ _ (by omega)⟩
           have fg:Hid (∀k,k<f.length->(f.getD (A0 n (z,F+1) k) ByteArray.empty).size=0->(∀i,i<k->¬(f.getD (A0 n (z,F+1) i) ByteArray.empty).size=0)->Cq WS l (List.replicate n (-1)) B R (j+1) Q2 (f.set (A0 n (z,F+1) k) o)):=fun k e1 e2 e3=>d4.out k (z,F+1) (by rw [cl.out,bs.out,bv.out]) e1 e2 e3
           generalize fh:A0 n (z,F+1)=C at *;clear fh hz al c9 HR;go_wp2;go_loopg [12] iz (fun r va wx=>w7=wx/\∃k:Nat,k<=iz/\r=iz - k/\va= .int .i64 (C k:Nat)/\∀i,i<k->¬(f.getD (C i) ByteArray.empty).size=0)
           case atStart=>exact ⟨rfl,0,by omega,by omega,by rw [dd],fun i hi=>by omega⟩
           case round=>
            obtain ⟨rfl,k,hk,gj,rfl,bb⟩:=hrel;have de:=jp bb;clear bb;obtain ⟨bw,co⟩:=HY.out k;have ap:C k<f.length:=by omega
            obtain ⟨o1,o2⟩:=am.out.cell ap;cases J:(f[C k]).toList.isEmpty
            .have gk:k<iz:=by
              rcases Nat.lt_or_ge k iz with h|h
              .exact h
              .obtain rfl:k=iz:=by omega
               have:=(isEmpty_iff _).2 HZ.out;rw [this] at J;cases J
             have df:Hid (∀i,i<k+1->¬(f.getD (C i) ByteArray.empty).size=0):=fun i hi e=>by
              by_cases fi:i=k
              .subst fi;rw [OC ap] at e;rw [(isEmpty_iff _).2 e] at J;cases J
              .exact de.out i (by omega) e
             have fj:=jp bw
             clear bw
             generalize f[C k]=fk at *
             generalize C k=a at *
             have f0:((n:Int)==0)=false:=by rw [jI];omega
             have w1:wrap64 ((a:Int)+F)=(a:Int)+F:=by unfold wrap64;omega
             have w2:wrap64 ((a:Int)+F+1)=(a:Int)+F+1:=by unfold wrap64;omega
             go_wp2
             go_roundg (iz - (k+1))
             case measure=>omega
             case rel=>
              refine ⟨rfl,k+1,by omega,rfl,?_,df.out⟩
              rw [fj.out,Int.add_assoc]
            .have h0:(f[C k]).size=0:=(isEmpty_iff _).1 J;have fl:Hid (emp (f.set (C k) o)+1=emp f):=Xh ap h0 (by omega);have fm:Hid (DG W.heap.size go (w7.setCell ⟨go,C k * 3,none⟩ (.string o)) (f.set (C k) o)):=am.out.set (C k) o;have fn:=(World.ownsRow.lt am.out go rfl).1;have fo:Hid (BS W.heap.size (w7.setCell ⟨go,C k * 3,none⟩ (.string o)) (sl K Q2.length cq) Q2):=Ir da.out (World.ownsRow.stored am.out (C k * 3) (.string o)).2 (by simp [sl,Value.ownBlock];omega);have fp:Hid (Aa W (w7.setCell ⟨go,C k * 3,none⟩ (.string o))):=db.step_set (p:=⟨go,C k * 3,none⟩) fn _
             have fq:Hid (∀s∈f.set (C k) o,I8 B s):=by
              intro s hs;rcases List.mem_or_eq_of_mem_set hs with h|h
              .exact dc.out s h
              .rw [h];exact Or.inr ch.out
             have fr:Hid ((f.set (C k) o).length=n):=by show List.length _=n;rw [List.length_set];exact ba
             have bi:Hid (Cq WS l (List.replicate n (-1)) B R (j+1) Q2 (f.set (C k) o)):=fg.out k (by omega) (by rw [OC ap];exact h0) de.out;clear bw am da dc;generalize f[C k]=fk at *;generalize f.set (C k) o=dg at *;generalize C k=a at *;go_wp2;go_roundg (B.length - (j+1))
             case measure=>omega
             case rel=>
              have O:=fl.out;have h2:=cn.out;have h3:=bk.out.2.2;exact ⟨j+1,Q2,dg,rfl,by omega,by go_num,congrArg (Value.int IntKind.i64) (by omega),⟨fp.out,fo.out,fm.out,ff,bk.out.1,fr.out,bk.out.2.1,fq.out,by omega⟩,by omega,fun e=>(by omega),bi.out⟩
       .have cg:decide ((j:Int)<(B.length:Int))=false:=jK (by omega)
        have f2:emp f<E0:=by
         rcases Nat.lt_or_ge (emp f) E0 with h|h
         .exact h
         .have he:emp f=E0:=by omega
          have hz:∀x∈Q,x=0:=fun x hx=>by
           obtain ⟨i,hi,rfl⟩:=List.mem_iff_getElem.1 hx;exact v he i hi (by have:=q.2.2.2.2.1;omega)
          have f3:Q.sum=0:=by
           clear q v dy hj cg D HM
           induction Q with
           |nil=>rfl
           |cons y Q ih=>rw [List.sum_cons,hz y List.mem_cons_self,ih (fun x hx=>hz x (jW _ hx))];rfl
          have:=q.2.2.2.2.2.2.2.2;omega
        have Y:=jp q
        have fs:Hid (Cq WS l (List.replicate n (-1)) B (R+1) 0 Q f):=by
         have O:=HM.out;rw [show j=l.length by rw [HL.out];omega] at O;exact O.next
        clear q v;go_wp2;go_roundg (emp f)
        case measure=>omega
        case rel=>exact ⟨Q,f,rfl,rfl,Y.out,R+1,fs.out⟩
     .have dx:decide (((emp f:Nat):Int)>0)=false:=jK (by omega);have Y:=jp q;clear q;go_wp2;go_ret;obtain ⟨s1, -,s3, -, -,s6,s7,s8,s9⟩:=Y.out
      have ft:∀x∈Q,x=0:=fun x hx=>by
       have O:=(GW s7).1 x hx;have h2:=s7 x hx;omega
      refine ⟨_,CG f,rfl,A.trans s1,⟨?_,fun g hg=>?_⟩,?_,?_,?_,cd.out f Q R ft HM.out⟩
      .have:=Ap.of_owns s3;unfold Cl;rw [Kv,s6] at *;exact this
      .rw [<-s6] at hg;have:=(World.ownsRow.lt s3 g hg).1;have:=A.size;omega
      .rw [Kv,s6];omega
      .intro x hx;obtain ⟨y,hy,rfl⟩:=List.mem_map.1 hx;refine ⟨?_,Cd,Cd⟩;rcases s8 y hy with h|h
       .exact absurd (List.countP_pos_iff.2 ⟨y,hy,jL h⟩) hE
       .exact h
      .intro _;exact Or.inr (by rw [Kv,s6])
end Go.Proofs.YtpapdkhjdelfcaaGreat
