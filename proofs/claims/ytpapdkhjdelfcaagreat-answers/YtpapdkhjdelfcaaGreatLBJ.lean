import Derived.Test.YtpapdkhjdelfcaaGreatLBI
namespace Go.Proofs.YtpapdkhjdelfcaaGreat
open Go.RowKit
set_option maxRecDepth 100000
set_option maxHeartbeats 4000000
def Rm (sh:List Int) (R j:Nat) (Q:List Int):Prop:=Q.length=sh.length/\∀i,i<sh.length->Q.getD i 0=if i<j then max (sh.getD i 0 - (R+1)) 0 else max (sh.getD i 0 - R) 0
def Cq (W:List (Int×Int)) (sh b:List Int) (B:List BK) (R j:Nat) (Q:List Int) (a:List ByteArray):Prop:=Rm sh R j Q/\a=(Bu W sh R (CD W sh b R) j).map (A7 B)/\LB B.length (Bu W sh R (CD W sh b R) j)
theorem WC {p:Nat->Bool} {f:Nat->Nat} {n k:Nat} (a:k<n) (b:p (f k)=true) (c:∀j,j<k->p (f j)=false):((List.range n).map f).find? p=some (f k):=by
 rw [List.find?_map]
 have:(List.range n).find? (p ∘ f)=some k:=by
  rw [List.find?_range_eq_some];exact ⟨b,by simpa using a,fun j d=>by simp [c j d]⟩
 rw [this];rfl
theorem OV {B:List BK} (b:AL B) {x:Int} (h:x= -1\/∃i:Nat,i<B.length/\x=(i:Int)):(A7 B x).size=0↔x<0:=by
 rcases h with rfl|⟨i,a,rfl⟩
 .exact ⟨fun _=>by decide,fun _=>rfl⟩
 .rw [IY a];have:=(b.2 _ (jJ a)).1;constructor
  .intro h;omega
  .intro h;omega
theorem LB.at {l:Nat} {S:List Int} (h:LB l S) {k:Nat} (a:k<S.length):S.getD k 0= -1\/∃i:Nat,i<l/\S.getD k 0=(i:Int):=by
 rw [jV,jG a];exact h _ (jJ a)
theorem Cq.skip {W:List (Int×Int)} {sh c:List Int} {B:List BK} {R j:Nat} {Q:List Int} {a:List ByteArray} (h:Cq W sh c B R j Q a) (l:j<sh.length) (f:Q.getD j 0=0):Cq W sh c B R (j+1) Q a:=by
 obtain ⟨⟨m,g⟩,n,o⟩:=h;have p:=g j l;rw [if_neg jo,f] at p;have d:sh.getD j 0<=R:=jo
 have k:Bu W sh R (CD W sh c R) (j+1)=Bu W sh R (CD W sh c R) j:=by rw [Bu,if_pos d]
 refine ⟨⟨m,fun i q=>?_⟩,by rw [k];exact n,by rw [k];exact o⟩;have:=g i q;by_cases b:i<j
 .rw [if_pos b] at this;rw [if_pos jo];exact this
 .by_cases r:i=j
  .subst r;rw [if_pos jo,f];omega
  .rw [if_neg b] at this;rw [if_neg jo];exact this
theorem Cq.turn {W:List (Int×Int)} {sh n:List Int} {B:List BK} {R j:Nat} {Q:List Int} {a:List ByteArray} {k:Nat} {wy:Int×Int} (h:Cq W sh n B R j Q a) (s:AL B) (z:j<sh.length) (g:j<B.length) (G:¬Q.getD j 0=0) (A:W.getD j (0,0)=wy) (t:k<a.length) (c:∀i,A0 a.length wy i<a.length)
  (b:(a.getD (A0 a.length wy k) ByteArray.empty).size=0) (f:∀i,i<k->¬(a.getD (A0 a.length wy i) ByteArray.empty).size=0):Cq W sh n B R (j+1) (Q.set j (Q.getD j 0 - 1)) (a.set (A0 a.length wy k) B[j].1):=by
 obtain ⟨⟨C,u⟩,o,p⟩:=h;have v:=u j z;rw [if_neg jo] at v;have q:¬sh.getD j 0<=R:=jo
 generalize D:Bu W sh R (CD W sh n R) j=S at o p;have E:a.length=S.length:=by rw [o,je]
 have d:∀i,i<S.length->a.getD i ByteArray.empty=A7 B (S.getD i 0):=fun i l=>by
  rw [o,jV,jV,List.getElem?_map,jG l];rfl
 rw [E] at t c b f |-
 have r:EF S wy=some (A0 S.length wy k):=by
  unfold EF;refine WC t ?_ (fun i l=>?_)
  .rw [decide_eq_true_eq];rw [d _ (c k)] at b;exact (OV s (p.at (c k))).1 b
  .rw [decide_eq_false_iff_not];have:=f i l;rw [d _ (c i)] at this;exact fun e=>this ((OV s (p.at (c i))).2 e)
 have w:Bu W sh R (CD W sh n R) (j+1)=S.set (A0 S.length wy k) (j:Int):=by
  rw [Bu,if_neg q,D];unfold FP;rw [A,r]
 refine ⟨⟨by rw [List.length_set];exact C,fun i l=>?_⟩,?_,?_⟩
 .have:=u i l;rw [KZ _ _ _ _ jo];by_cases m:i=j
  .subst m;rw [if_pos rfl,if_pos jo,v];omega
  .rw [if_neg m,this];by_cases y:i<j
   .rw [if_pos y,if_pos jo]
   .rw [if_neg y,if_neg jo]
 .rw [w,List.map_set,<-o,IY g]
 .rw [w];intro x F;rcases List.mem_or_eq_of_mem_set F with h|h
  .exact p x h
  .exact Or.inr ⟨j,g,h⟩
theorem Cq.next {W:List (Int×Int)} {sh b:List Int} {B:List BK} {R:Nat} {Q:List Int} {a:List ByteArray} (h:Cq W sh b B R sh.length Q a):Cq W sh b B (R+1) 0 Q a:=by
 obtain ⟨⟨d,f⟩,g,k⟩:=h;refine ⟨⟨d,fun i c=>?_⟩,g,k⟩;have:=f i c;rw [if_pos c] at this;rw [if_neg jo,this];push_cast;rfl
theorem R5 {W:List (Int×Int)} {sh:List Int} {R:Nat} {S:List Int} (h:∀i,i<sh.length->sh.getD i 0<=R):∀n,n<=sh.length->Bu W sh R S n=S:=by
 intro n
 induction n with
 |zero=>intro _;rfl
 |succ n ih=>
  intro a;rw [Bu,if_pos (h n jo)];exact ih jo
theorem MW {W:List (Int×Int)} {sh c:List Int} {a:Nat} (h:∀i,i<sh.length->sh.getD i 0<=a) (b:Nat) (d:a<=b):CD W sh c b=CD W sh c a:=by
 induction b with
 |zero=>rw [show a=0 by omega]
 |succ b ih=>
  by_cases f:a=b+1
  .rw [f]
  .rw [CD,R5 (fun i g=>by have:=h i g;omega) _ (jH _)];exact ih jo
theorem Cq.done {W:List (Int×Int)} {sh b:List Int} {B:List BK} {R:Nat} {Q:List Int} {a:List ByteArray} {n:Nat} (h:Cq W sh b B R 0 Q a) (d:∀x∈Q,x=0) (f:∀i,i<sh.length->sh.getD i 0<=n):a=(CD W sh b n).map (A7 B):=by
 obtain ⟨⟨o,g⟩,k,p⟩:=h
 have l:∀i,i<sh.length->sh.getD i 0<=R:=fun i m=>by
  have:=g i m;rw [if_neg jo] at this
  have q:Q.getD i 0=0:=by
   rw [jV,jG jo];exact d _ (jJ _)
  omega
 rw [k];show (CD W sh b R).map _=_;rcases Nat.le_total R n with c|c
 .rw [MW l n c]
 .rw [MW f R c]
theorem Cq.start {W:List (Int×Int)} {sh:List Int} {B:List BK} {n:Nat} (h:∀x∈sh,0<=x):Cq W sh (List.replicate n (-1)) B 0 0 sh (List.replicate n ByteArray.empty):=by
 refine ⟨⟨rfl,fun i a=>?_⟩,?_,fun x b=>Or.inl (List.eq_of_mem_replicate b)⟩
 .rw [if_neg jo]
  have:0<=sh.getD i 0:=by
   rw [jV,jG a];exact h _ (jJ a)
  push_cast;omega
 .show _=(List.replicate n (-1)).map _;rw [List.map_replicate];rfl
theorem Zg {c:Ac} {B:List BK} {a:List ByteArray} (b:c.alg=1) (d:1<=As B) (h:a=(F3 c B).map (A7 B)):BU c B (CG a):=by
 unfold BU An;rw [if_neg jo,if_pos b,h];unfold CG;rw [List.map_map,List.map_map,List.map_map];rfl
theorem Yd {c:Ac} {B:List BK} {j:Nat} (a:j<B.length):(B.map (Cr c)).getD j (0,0)=Cr c B[j]:=by
 rw [jV,List.getElem?_map,jG a];rfl
theorem Qr {n:Nat} (a:0<n) (wy:Int×Int) (i:Nat):A0 n wy i<n:=by
 unfold A0;have b:=Int.emod_lt_of_pos (wy.1+(i:Int) * wy.2) (show (0:Int)<(n:Int) by omega);have c:=Int.emod_nonneg (wy.1+(i:Int) * wy.2) (show (n:Int)≠0 by omega);omega
theorem OC {L:List ByteArray} {k:Nat} (h:k<L.length):L.getD k ByteArray.empty=L[k]:=by
 rw [jV,jG h];rfl
theorem JY {L:List Int} {k:Nat} (h:k<L.length):L.getD k 0=L[k]:=by
 rw [jV,jG h];rfl
theorem Xf (c:Ac) (vB:Value) (B:List BK) (w:World) (hc:c.OK) (hP:Am w vB B) (hB:AL B) (ha1:c.alg=1):
  Calls Tryz.prog 162 #[.agg c.cells,vB] w (Fx w c B):=by
 have HPO:=jp hB;obtain ⟨i0,hi,hz0,hz1,hz2⟩:=info_parts Tryz.infoEN;have hc':Hid c.OK:=hc;obtain ⟨hs3,hs211,hprI,hk16⟩:3<=c.slots/\c.slots<=211/\(∀d:Nat,2<=d->(d:Int)<c.slots->c.slots % d≠0)/\c.key.size=16:=⟨hc.2.2.1,hc.2.2.2.1,hc.2.2.2.2.1,hc.2.2.2.2.2.2.2.2.2.1⟩;obtain ⟨n,hn⟩:∃n:Nat,c.slots=(n:Int):=⟨c.slots.toNat,by omega⟩
 have hpr : Hid (∀ d : Nat, 2 <= d -> d < n -> n % d ≠ 0) := fun d h1 h2 h3 => hprI d h1 (by omega) (by
   rw [hn]
   have : (n : Int) % (d : Int) = ((n % d : Nat) : Int) := by simp
   rw [this, h3]; rfl)
 have hshr:=fun wx (b:Aa w wx)=>Ug B vB n wx (hP.later b) hB (by omega) (by omega)
 obtain ⟨Q0,hQ0⟩:∃Q0,Q0=DJ n B:=⟨_,rfl⟩
 have HQ:Hid (Q0.length=B.length/\(∀x∈Q0,0<=x)/\((Q0.sum=0/\∀x∈Q0,x=0)\/(Q0.sum=n/\1<=As B))):=by
  rw [hQ0];exact ⟨QK _ _,XJ _ _ (by omega) hB,Vt _ _ (by omega) hB⟩
 rw [<-hQ0] at hshr
 have HZ0:Hid (Q0.sum=0->BU c B []):=fun h=>by
  refine BU.none ?_;rcases Int.lt_or_le (As B) 1 with h1|h1
  .exact h1
  .have h2:=(Ma (n:Int) B (by omega) (fun b hb=>(hB.2 b hb).2.2.1) h1).1;have h3:DJ (n:Int) B=CJ (n:Int) B:=by unfold DJ;rw [if_neg (by omega)]
   rw [hQ0,h3,h2] at h;omega
 have HMG:Hid (1<=As B->Q0.sum=n->∀ids Q R,(∀x∈Q,x=0)->Cq (B.map (Cr c)) Q0 (List.replicate n (-1)) B R 0 Q ids->BU c B (CG ids)):=fun hw hs ids Q R hz hm=>by
  refine Zg ha1 hw ?_;have h3:Q0=CJ c.slots B:=by rw [hQ0,hn];unfold DJ;rw [if_neg (by omega)]
  have h4 := hm.done hz (n := n) (fun i hi => by
    have h5 := (GW HQ.out.2.1).1 _ (jJ hi)
    rw [JY hi]
    omega)
  rw [h4];unfold F3;rw [<-h3,hn];rfl
 have HWY:Hid (∀j (h:j<B.length),(B.map (Cr c)).getD j (0,0)=(Al c.key 111 [] B[j].1 % (n:Int),Al c.key 115 [] B[j].1 % ((n:Int) - 1)+1)):=fun j h=>by
  rw [Yd h];unfold Cr Cv;rw [hn,if_neg (by omega),if_neg (by omega)]
 obtain ⟨WS,hWS⟩:∃X,X=B.map (Cr c):=⟨_,rfl⟩;rw [<-hWS] at HMG HWY;clear hWS ha1;obtain ⟨aoB,capB,rfl,hcB⟩:=hP.open;obtain ⟨h8,hall⟩:=hB;have HALL:=jp hall;have HCB:=jp hcB;have HC:Hid (c.slots=(n:Int)):=hn;clear hQ0 hP hall hcB hc hprI;obtain ⟨alg,slots,points,probes,key,formats⟩:=c;simp only at hn hs3 hs211 hk16 HWY;subst hn;simp only [Ac.cells];go_enter Tryz.func162,Tryz.ntmps162;go_wp2_with fail;have hbox1:(w.alloc (.cells #[.int .i64 alg,.int .i64 (n:Int),.int .i64 points,.int .i64 probes,.string key,.int .i64 formats] 30)).cell? ⟨w.heap.size,1,none⟩=some (.int .i64 (n:Int)):=by simp
 have hbox4:(w.alloc (.cells #[.int .i64 alg,.int .i64 (n:Int),.int .i64 points,.int .i64 probes,.string key,.int .i64 formats] 30)).cell? ⟨w.heap.size,4,none⟩=some (.string key):=by simp
 have hbel0:Aa w (w.alloc (.cells #[.int .i64 alg,.int .i64 (n:Int),.int .i64 points,.int .i64 probes,.string key,.int .i64 formats] 30)):=by (repeat (first|exact jD _|assumption|refine jA ?_|refine jB ?_|refine jC ?_|refine Aa.step_set ?_ (by simp <;>omega) _|refine jE ?_ (by assumption)))
 have hbx0:w.heap.size<(w.alloc (.cells #[.int .i64 alg,.int .i64 (n:Int),.int .i64 points,.int .i64 probes,.string key,.int .i64 formats] 30)).heap.size:=by simp
 generalize w.alloc (.cells #[.int .i64 alg,.int .i64 (n:Int),.int .i64 points,.int .i64 probes,.string key,.int .i64 formats] 30)=W at *;generalize hpx:w.heap.size=px at *;refine (hshr W hbel0).mono ?_;rintro e w1 ⟨vq,rfl,hb1,hO⟩;clear hshr;have d1:=hb1.cell hbox1;have hw1:=hb1.size;go_wp2_with (first|(at_make;refine wpList_make_full _ rfl _ _ 83 rfl W.heap.size 146 i0 (.agg #[.string ByteArray.empty,.int .i64 0,.int .i64 0]) 3 Tryz.underlying83 hi hz0 hz1 _ _ _ _ n rfl rfl rfl rfl ?b2 ?b3 ?b4 ?_))
 case b2=>first|omega|(rw [hz2];omega)
 case b3=>unfold maxLen;omega
 case b4=>exact hw1
 intro w2 hown2 hg2;have hb2:Aa w1 w2:=(jD _).grown hg2 (fun g hg=>by cases hg);have hN:=DG.made hown2;have hO2:=hO.later hb2;have hqlt:=World.ownsRow.lt hO;generalize w1.heap.size=go at *;have hbW2:Aa W w2:=hb1.trans hb2;clear hown2 hg2 hO d1 hb1 hb2;obtain ⟨aq,cq,rfl,hqc⟩:=(BS.row hO2).open;go_wp2;go_loopg [7,8] Q0.length (fun r s i wr=>w2=wr/\∃k:Nat,r=Q0.length - k/\k<=Q0.length/\i= .int .i64 k/\s= .int .i64 ((Q0.take k).sum))
 case atStart=>exact ⟨rfl,0,by omega,by omega,rfl,by simp⟩
 case round=>
  obtain ⟨rfl,k,hr,hk,rfl,rfl⟩:=hrel;have hq8:Q0.length<=8:=by have:=HQ.out.1;omega
  have hQs:Q0.sum<=211:=by rcases HQ.out.2.2 with ⟨h,_⟩|⟨h,_⟩<;>omega
  obtain ⟨hbd1,hbd2⟩:=MZ HQ.out.2.1 k;by_cases hlt:k<Q0.length
  .obtain ⟨gq,rfl,q1⟩:=hqc k hlt
   have HS:Hid ((Q0.take (k+1)).sum=(Q0.take k).sum+Q0[k]):=by
    show (Q0.take (k+1)).sum=_;rw [jQ hlt,List.sum_append];simp
   obtain ⟨hbd3,hbd4⟩:=MZ HQ.out.2.1 (k+1);rw [HS.out] at hbd3 hbd4;have hqk:=HQ.out.2.1 _ (jJ hlt);clear hqc;generalize Q0[k]=qk at *;generalize (Q0.take k).sum=sk at *;go_wp2;go_roundg (Q0.length - (k+1))
   case measure=>omega
   case rel=>exact ⟨rfl,k+1,rfl,by omega,by go_num,by rw [HS.out]⟩
  .have hfull:(Q0.take k).sum=Q0.sum:=by rw [jR (by omega)]
   rw [hfull];have hkb:decide ((k:Int)<(Q0.length:Int))=false:=jK (by omega);rcases HQ.out.2.2 with ⟨h0, -⟩|⟨hsn,hW1⟩
   .have HTE:=jp (HZ0.out h0);rw [h0];clear hqc hfull hbd1 hbd2 hQs;go_wp2;go_ret;exact ⟨_,[],rfl,hbel0.trans hbW2,⟨Or.inl ⟨rfl,rfl,rfl⟩,fun g hg=>(by cases hg)⟩,by simp,(fun x hx=>(by cases hx)),fun _=>Or.inl rfl,HTE.out⟩
   .rw [hsn]
    have hpos:0<Q0.length:=by
     rcases Nat.eq_zero_or_pos Q0.length with h|h
     .have:=List.length_eq_zero_iff.1 h;rw [this] at hsn;simp at hsn;omega
     .exact h
    obtain ⟨gq,haq, -⟩:=hqc 0 hpos;subst haq;have hgq:=hqlt gq rfl
    have HI0 : Hid (IU W B gq cq go n Q0 (List.replicate n ByteArray.empty) w2) := ⟨hbW2, hO2, hN, by omega, HQ.out.1, by simp, HQ.out.2.1, fun s hs => Or.inl (by rw [List.eq_of_mem_replicate hs]; rfl), by
      rw [hsn]
      have : emp (List.replicate n ByteArray.empty) = n := by
        unfold emp
        rw [List.countP_eq_length.2 (fun x hx => by rw [List.eq_of_mem_replicate hx]; rfl), List.length_replicate]
      rw [this]⟩
    have HM0:Hid (Cq WS Q0 (List.replicate n (-1)) B 0 0 Q0 (List.replicate n ByteArray.empty)):=Cq.start HQ.out.2.1;have HFIN:Hid (∀ids Q R,(∀x∈Q,x=0)->Cq WS Q0 (List.replicate n (-1)) B R 0 Q ids->BU ⟨alg,(n:Int),points,probes,key,formats⟩ B (CG ids)):=HMG.out hW1 hsn;have hnz:((n:Int)==0)=false:=by rw [jI];omega
    have HL:Hid (Q0.length=B.length):=HQ.out.1;clear hqc hfull hbd1 hbd2 hQs hqlt hgq hO2 hN hsn hpos HQ;rw [HL.out] at hkb hlt hk hr |-;go_wp2;go_loopg [7] n (fun r s wr=>∃Q ids,s= .int .i64 (emp ids:Nat)/\r=emp ids/\IU W B gq cq go n Q ids wr/\∃R,Cq WS Q0 (List.replicate n (-1)) B R 0 Q ids)
    case atStart=>
     have hem:emp (List.replicate n ByteArray.empty)=n:=by
      unfold emp;rw [List.countP_eq_length.2 (fun x hx=>by rw [List.eq_of_mem_replicate hx];rfl),List.length_replicate]
     exact ⟨Q0,_,by rw [hem],by rw [hem],HI0.out,0,HM0.out⟩
    case round=>
     clear HI0 HM0;obtain ⟨Q,ids,rfl,rfl,hS,R,hM⟩:=hrel;have HM:=jp hM;clear hM;by_cases hE:0<emp ids
     .have hEb:decide (((emp ids:Nat):Int)>0)=true:=jL (by omega);have HS:=jp hS;clear hS;generalize hE0:emp ids=E0 at *;have HE0:=jp hE0;clear hE0;go_wp2;go_loopg [7,9] B.length (fun r s i wx=>∃(j:Nat) (Q':List Int) (ids':List ByteArray),r=B.length - j/\j<=B.length/\i= .int .i64 j/\s= .int .i64 (emp ids':Nat)/\IU W B gq cq go n Q' ids' wx/\emp ids'<=E0/\(emp ids'=E0->∀i (h:i<Q'.length),i<j->Q'[i]=0)/\Cq WS Q0 (List.replicate n (-1)) B R j Q' ids')
      case atStart=>exact ⟨0,Q,ids,by omega,by omega,rfl,by rw [HE0.out],HS.out,by rw [HE0.out];exact jH _,fun _ i _ h=>(by omega),HM.out⟩
      case round=>
       clear HS HE0 HM Q ids;obtain ⟨j,Q,ids,hrj,hj,rfl,rfl,hS,hle,hzero,hM⟩:=hrel;have HM:=jp hM;clear hM;by_cases hjl:j<B.length
       .have hjb:decide ((j:Int)<(B.length:Int))=true:=jL (by omega);have hjQ:j<Q.length:=by rw [hS.2.2.2.2.1];exact hjl
        have q1:wr.cell? ⟨gq,j,none⟩=some (.int .i64 Q[j]):=(World.ownsRow.cellAt hS.2.1 j (by omega)).trans (by rw [List.getElem?_map,jG hjQ];rfl);have f1:=World.ownsRow.frozenAt hS.2.1 j;have hQj:=hS.2.2.2.2.2.2.1 _ (jJ hjQ);have HS:=jp hS;have HZ:=jp hzero;by_cases hq0:Q[j]=0
        .have hqb:(Q[j]==0)=true:=by rw [hq0];rfl
         have HN:Hid (emp ids=E0->∀i (h:i<Q.length),i<j+1->Q[i]=0):=fun e i h1 h2=>by
          by_cases hij:i=j
          .subst hij;exact hq0
          .exact HZ.out e i h1 (by omega)
         have HM2:Hid (Cq WS Q0 (List.replicate n (-1)) B R (j+1) Q ids):=HM.out.skip (by rw [HL.out];exact hjl) (by rw [JY hjQ];exact hq0);clear hS hzero;generalize Q[j]=qj at *;go_wp2;go_roundg (B.length - (j+1))
         case measure=>omega
         case rel=>exact ⟨j+1,Q,ids,rfl,by omega,by go_num,rfl,HS.out,hle,HN.out,HM2.out⟩
        .have hqb:(Q[j]==0)=false:=by rw [jI];exact hq0
         obtain ⟨gB,rfl,b0, -⟩:=HCB.out j hjl;obtain ⟨a1,a2, -, -⟩:=HALL.out _ (jJ hjl);have hmem:Hid (∃b∈B,b.1=B[j].1):=⟨B[j],jJ hjl,rfl⟩
         have hQ1:Q[j]<=211:=by
          have h1:=(GW hS.2.2.2.2.2.2.1).1 _ (jJ hjQ);have h2:=hS.2.2.2.2.2.2.2.2;have h3:emp ids<=ids.length:=List.countP_le_length;have h4:=hS.2.2.2.2.2.1;omega
         have hgq2:=(World.ownsRow.lt hS.2.1 gq rfl).1;have hO':=World.ownsRow.stored hS.2.1 j (.int .i64 (Q[j] - 1))
         have HO':Hid (BS W.heap.size (wr.setCell ⟨gq,j,none⟩ (.int .i64 (Q[j] - 1))) (sl gq (Q.set j (Q[j] - 1)).length cq) (Q.set j (Q[j] - 1))):=by
          have:=hO'.1;unfold Hid BS;rw [sl,List.length_set,List.map_set];exact this
         have HN' : Hid (DG W.heap.size go (wr.setCell ⟨gq, j, none⟩ (.int .i64 (Q[j] - 1))) ids) := Ir hS.2.2.1 hO'.2 (by
           have := hS.2.2.2.1
           simp [sl, Value.ownBlock]
           omega)
         have hbWq:Aa W (wr.setCell ⟨gq,j,none⟩ (.int .i64 (Q[j] - 1))):=hS.1.step_set (p:=⟨gq,j,none⟩) hgq2 _
         have HQS:Hid ((Q.set j (Q[j] - 1)).length=B.length/\(∀x∈Q.set j (Q[j] - 1),0<=x)/\(Q.set j (Q[j] - 1)).sum=Q.sum - 1):=by
          refine ⟨by rw [List.length_set];exact hS.2.2.2.2.1,fun x hx=>?_,?_⟩
          .rcases List.mem_or_eq_of_mem_set hx with h|h
           .exact hS.2.2.2.2.2.2.1 x h
           .omega
          .rw [LP _ _ _ hjQ,jV,jG hjQ];simp only [Option.getD_some];omega
         have HR:Hid (gq≠go/\ids.length=n/\(∀s∈ids,I8 B s)/\Q.sum=emp ids):=⟨hS.2.2.2.1,hS.2.2.2.2.2.1,hS.2.2.2.2.2.2.2.1,hS.2.2.2.2.2.2.2.2⟩
         have hEp:1<=emp ids:=by
          have h1:=(GW hS.2.2.2.2.2.2.1).1 _ (jJ hjQ);have h2:=hS.2.2.2.2.2.2.2.2;omega
         have hE211:emp ids<=211:=by
          have h3:emp ids<=ids.length:=List.countP_le_length;have h4:=hS.2.2.2.2.2.1;omega
         have HMT:Hid (∀(k:Nat) (wy:Int×Int),WS.getD j (0,0)=wy->k<ids.length->(ids.getD (A0 n wy k) ByteArray.empty).size=0->(∀i,i<k->¬(ids.getD (A0 n wy i) ByteArray.empty).size=0)->Cq WS Q0 (List.replicate n (-1)) B R (j+1) (Q.set j (Q[j] - 1)) (ids.set (A0 n wy k) B[j].1)):=fun k wy e1 e2 e3 e4=>by
          have e5:=hS.2.2.2.2.2.1;have:=HM.out.turn (k:=k) (wy:=wy) HPO.out (by rw [HL.out];exact hjl) hjl (by rw [JY hjQ];exact hq0) e1 e2 (fun i=>Qr (by omega) wy i) (by rw [e5];exact e3) (by rw [e5];exact e4);rw [JY hjQ,e5] at this;exact this
         have HWJ:=jp (HWY.out j hjl);clear hS hzero HS HZ hO';generalize Q[j]=qj at *;generalize Q.set j (qj - 1)=Q2 at *;generalize B[j].1=idj at *;obtain ⟨HO,hHO⟩:∃X,X=Al key 111 [] idj:=⟨_,rfl⟩;obtain ⟨HSK,hHSK⟩:∃X,X=Al key 115 [] idj:=⟨_,rfl⟩;rw [<-hHO,<-hHSK] at HWJ;have HTO:Hid (Cs key (⟨#[111]⟩++idj)=HO):=by show _=HO;rw [hHO];exact Ki key 111 idj
         have HTS:Hid (Cs key (⟨#[115]⟩++idj)=HSK):=by show _=HSK;rw [hHSK];exact Ki key 115 idj
         clear hHO hHSK;generalize hEm:emp ids=Em at *;have HEm:=jp hEm;clear hEm;go_upto_region 17 with fail
         generalize wr.setCell ⟨gq,j,none⟩ (.int .i64 (qj - 1))=w3 at *;have b0x:=(hbel0.trans hbWq).cell b0;have x1:=hbWq.cell hbox1;have x4:=hbWq.cell hbox4;have hgl:gB<w3.heap.size:=jF b0x;have hpl:px<w3.heap.size:=jF x4;go_cut [10] (fun u10 wc=>AX w3.heap.size wc u10 HO/\Aa w3 wc)
         case first=>
          go_region_with (go_at_call 114;refine (F2 _ _ _ hk16 (by simp only [jY,show (({data:=#[111]}:ByteArray)).size=1 from rfl];omega)).mono ?_;rintro e w4 ⟨z0,z1,rfl,hb4,g0,g1,ez⟩;obtain ⟨hq2,hf2⟩:=hb4.cells)
          all_goals
           have EZ:Hid (wv z0 z1=HO):=by
            have ez':wv z0 z1=Cs key (⟨#[111]⟩++idj):=ez;show wv z0 z1=HO;rw [ez',HTO.out]
           clear ez;go_wp2_with fail;go_meet
           case rel=>
            have hB4:Aa w3 w4:=by (repeat (first|exact jD _|assumption|refine jA ?_|refine jB ?_|refine jC ?_|refine Aa.step_set ?_ (by simp <;>omega) _|refine jE ?_ (by assumption)))
            first
             |exact ⟨AX.new hB4.size g0 g1 EZ.out _,hB4.step_alloc _⟩
             |exact ⟨AX.stored (jH _) ((hq2 _ _ (by simp)).trans (by simp;rfl)) ((hq2 _ _ (by simp)).trans (by simp;rfl)) ((hf2 _ _ (by simp)).trans (by simp)) ((hf2 _ _ (by simp)).trans (by simp)) g0 g1 EZ.out,(hB4.step_set (p:=⟨w3.heap.size,0,none⟩) (jH _) _).step_set (p:=⟨w3.heap.size,1,none⟩) (jH _) _⟩
         case rest=>
          obtain ⟨hbx10,hbc⟩:=hcut;obtain ⟨p10,X10,Y10,rfl,hp10,c100,c101, -, -,hX10,hY10,hV10⟩:=hbx10;have HV10:=jp hV10;clear hV10;have b0y:=hbc.cell b0x;have x1y:=hbc.cell x1;have x4y:=hbc.cell x4;have hgl2:gB<wc.heap.size:=jF b0y;have hpl2:px<wc.heap.size:=jF x4y;have hp10l:p10<wc.heap.size:=jF c100;clear b0x x1 x4 hgl hpl;go_upto_region 18 with fail
          generalize wc=w5 at *;go_cut [11] (fun u11 wc=>AX w5.heap.size wc u11 HSK/\Aa w5 wc)
          case first=>
           go_region_with (go_at_call 114;refine (F2 _ _ _ hk16 (by simp only [jY,show (({data:=#[115]}:ByteArray)).size=1 from rfl];omega)).mono ?_;rintro e w4 ⟨z0,z1,rfl,hb4,g0,g1,ez⟩;obtain ⟨hq2,hf2⟩:=hb4.cells)
           all_goals
            have EZ:Hid (wv z0 z1=HSK):=by
             have ez':wv z0 z1=Cs key (⟨#[115]⟩++idj):=ez;show wv z0 z1=HSK;rw [ez',HTS.out]
            clear ez;go_wp2_with fail;go_meet
            case rel=>
             have hB4:Aa w5 w4:=by (repeat (first|exact jD _|assumption|refine jA ?_|refine jB ?_|refine jC ?_|refine Aa.step_set ?_ (by simp <;>omega) _|refine jE ?_ (by assumption)))
             first
              |exact ⟨AX.new hB4.size g0 g1 EZ.out _,hB4.step_alloc _⟩
              |exact ⟨AX.stored (jH _) ((hq2 _ _ (by simp)).trans (by simp;rfl)) ((hq2 _ _ (by simp)).trans (by simp;rfl)) ((hf2 _ _ (by simp)).trans (by simp)) ((hf2 _ _ (by simp)).trans (by simp)) g0 g1 EZ.out,(hB4.step_set (p:=⟨w5.heap.size,0,none⟩) (jH _) _).step_set (p:=⟨w5.heap.size,1,none⟩) (jH _) _⟩
          case rest=>
           obtain ⟨hbx11,hbd⟩:=hcut;obtain ⟨p11,X11,Y11,rfl,hp11,c110,c111, -, -,hX11,hY11,hV11⟩:=hbx11;have HV11:=jp hV11;clear hV11;have d100:=hbd.cell c100;have d101:=hbd.cell c101;have b0z:=hbd.cell b0y;have x1z:=hbd.cell x1y;have HO3:=jp ((HO'.out.later hbc).later hbd);have HN3:=jp ((HN'.out.later hbc).later hbd);have hbW3:=(hbWq.trans hbc).trans hbd;clear c100 c101 b0y x1y x4y hgl2 hpl2 HO' HN' hbWq;go_wp2_with fail;refine (LK _ _ _ _ hX10 hY10 (by omega) (by omega)).mono ?_;rintro e w6 ⟨at0,rfl,hb6,hat0⟩
           have HAT:Hid (at0=HO % (n:Int)):=by
            have:at0=wv X10 Y10 % (n:Int):=hat0;rw [HV10.out] at this;exact this
           have hat1:0<=at0:=by rw [HAT.out];exact Int.emod_nonneg _ (by omega)
           have hat2:at0<(n:Int):=by rw [HAT.out];exact Int.emod_lt_of_pos _ (by omega)
           clear hat0;have c110':=hb6.cell c110;have c111':=hb6.cell c111;have b0u:=hb6.cell b0z;have x1u:=hb6.cell x1z;have hn1:wrap64 ((n:Int) - 1)=(n:Int) - 1:=by unfold wrap64;omega
           go_wp2_with fail;refine (LK _ _ _ _ hX11 hY11 (by omega) (by omega)).mono ?_;rintro e w7 ⟨st,rfl,hb7,hst0'⟩
           have HST:Hid (st=HSK % ((n:Int) - 1)):=by
            have:st=wv X11 Y11 % ((n:Int) - 1):=hst0';rw [HV11.out] at this;exact this
           have hst1:0<=st:=by rw [HST.out];exact Int.emod_nonneg _ (by omega)
           have hst2:st<(n:Int) - 1:=by rw [HST.out];exact Int.emod_lt_of_pos _ (by omega)
           clear hst0';have b0v:=hb7.cell b0u;have x1v:=hb7.cell x1u;have hN7:=(HN3.out.later hb6).later hb7;have HO7:=jp ((HO3.out.later hb6).later hb7);have hbW7:=(hbW3.trans hb6).trans hb7;clear c110 c111 c110' c111' d100 d101 b0z x1z b0u x1u HO3 HN3 hbW3 hb6 hb7 hn1;obtain ⟨hg1,hids,hbest,hQE⟩:=HR.out;obtain ⟨iz,hiz,hlz,hz⟩:=Qy hids hpr.out (by omega) at0 (st+1) hat1 (by omega) (by omega) (by rw [HEm.out];omega);have HZ:=jp hz;have HBE:=jp hbest;have HN7:=jp hN7;have hst0:=RL (s:=st+1) hat1 hat2;have HY:Hid (∀k,((A0 n (at0,st+1) (k+1):Nat):Int)=((A0 n (at0,st+1) k:Nat)+(st+1)) % n/\A0 n (at0,st+1) k<n):=fun k=>⟨T2 (by omega) _ _ _,K9 _ _ (by omega)⟩
           have HTU:Hid (∀k,k<ids.length->(ids.getD (A0 n (at0,st+1) k) ByteArray.empty).size=0->(∀i,i<k->¬(ids.getD (A0 n (at0,st+1) i) ByteArray.empty).size=0)->Cq WS Q0 (List.replicate n (-1)) B R (j+1) Q2 (ids.set (A0 n (at0,st+1) k) idj)):=fun k e1 e2 e3=>HMT.out k (at0,st+1) (by rw [HWJ.out,HAT.out,HST.out]) e1 e2 e3
           generalize hst:A0 n (at0,st+1)=sf at *;clear hst hz hbest hN7 HR;go_wp2;go_loopg [12] iz (fun r va wx=>w7=wx/\∃k:Nat,k<=iz/\r=iz - k/\va= .int .i64 (sf k:Nat)/\∀i,i<k->¬(ids.getD (sf i) ByteArray.empty).size=0)
           case atStart=>exact ⟨rfl,0,by omega,by omega,by rw [hst0],fun i hi=>by omega⟩
           case round=>
            obtain ⟨rfl,k,hk,hrk,rfl,hocc⟩:=hrel;have HOC:=jp hocc;clear hocc;obtain ⟨hnx,hpl⟩:=HY.out k;have hpi:sf k<ids.length:=by omega
            obtain ⟨o1,o2⟩:=HN7.out.cell hpi;cases hemp:(ids[sf k]).toList.isEmpty
            .have hki:k<iz:=by
              rcases Nat.lt_or_ge k iz with h|h
              .exact h
              .obtain rfl:k=iz:=by omega
               have:=(isEmpty_iff _).2 HZ.out;rw [this] at hemp;cases hemp
             have HOC2:Hid (∀i,i<k+1->¬(ids.getD (sf i) ByteArray.empty).size=0):=fun i hi e=>by
              by_cases hik:i=k
              .subst hik;rw [OC hpi] at e;rw [(isEmpty_iff _).2 e] at hemp;cases hemp
              .exact HOC.out i (by omega) e
             have HNX:=jp hnx
             clear hnx
             generalize ids[sf k]=idk at *
             generalize sf k=a at *
             have hnz2:((n:Int)==0)=false:=by rw [jI];omega
             have w1:wrap64 ((a:Int)+st)=(a:Int)+st:=by unfold wrap64;omega
             have w2:wrap64 ((a:Int)+st+1)=(a:Int)+st+1:=by unfold wrap64;omega
             go_wp2
             go_roundg (iz - (k+1))
             case measure=>omega
             case rel=>
              refine ⟨rfl,k+1,by omega,rfl,?_,HOC2.out⟩
              rw [HNX.out,Int.add_assoc]
            .have h0:(ids[sf k]).size=0:=(isEmpty_iff _).1 hemp;have HE2:Hid (emp (ids.set (sf k) idj)+1=emp ids):=Xh hpi h0 (by omega);have HNS:Hid (DG W.heap.size go (w7.setCell ⟨go,sf k * 3,none⟩ (.string idj)) (ids.set (sf k) idj)):=HN7.out.set (sf k) idj;have hgo:=(World.ownsRow.lt HN7.out go rfl).1;have HOS:Hid (BS W.heap.size (w7.setCell ⟨go,sf k * 3,none⟩ (.string idj)) (sl gq Q2.length cq) Q2):=Ir HO7.out (World.ownsRow.stored HN7.out (sf k * 3) (.string idj)).2 (by simp [sl,Value.ownBlock];omega);have HBW:Hid (Aa W (w7.setCell ⟨go,sf k * 3,none⟩ (.string idj))):=hbW7.step_set (p:=⟨go,sf k * 3,none⟩) hgo _
             have HBS:Hid (∀s∈ids.set (sf k) idj,I8 B s):=by
              intro s hs;rcases List.mem_or_eq_of_mem_set hs with h|h
              .exact HBE.out s h
              .rw [h];exact Or.inr hmem.out
             have HLS:Hid ((ids.set (sf k) idj).length=n):=by show List.length _=n;rw [List.length_set];exact hids
             have HM2:Hid (Cq WS Q0 (List.replicate n (-1)) B R (j+1) Q2 (ids.set (sf k) idj)):=HTU.out k (by omega) (by rw [OC hpi];exact h0) HOC.out;clear hnx HN7 HO7 HBE;generalize ids[sf k]=idk at *;generalize ids.set (sf k) idj=ids2 at *;generalize sf k=a at *;go_wp2;go_roundg (B.length - (j+1))
             case measure=>omega
             case rel=>
              have h1:=HE2.out;have h2:=HEm.out;have h3:=HQS.out.2.2;exact ⟨j+1,Q2,ids2,rfl,by omega,by go_num,congrArg (Value.int IntKind.i64) (by omega),⟨HBW.out,HOS.out,HNS.out,hg1,HQS.out.1,HLS.out,HQS.out.2.1,HBS.out,by omega⟩,by omega,fun e=>(by omega),HM2.out⟩
       .have hjb:decide ((j:Int)<(B.length:Int))=false:=jK (by omega)
        have hltE:emp ids<E0:=by
         rcases Nat.lt_or_ge (emp ids) E0 with h|h
         .exact h
         .have he:emp ids=E0:=by omega
          have hz:∀x∈Q,x=0:=fun x hx=>by
           obtain ⟨i,hi,rfl⟩:=List.mem_iff_getElem.1 hx;exact hzero he i hi (by have:=hS.2.2.2.2.1;omega)
          have hsum:Q.sum=0:=by
           clear hS hzero hrj hj hjb hjl HM
           induction Q with
           |nil=>rfl
           |cons y Q ih=>rw [List.sum_cons,hz y List.mem_cons_self,ih (fun x hx=>hz x (jW _ hx))];rfl
          have:=hS.2.2.2.2.2.2.2.2;omega
        have HS:=jp hS
        have HMN:Hid (Cq WS Q0 (List.replicate n (-1)) B (R+1) 0 Q ids):=by
         have h1:=HM.out;rw [show j=Q0.length by rw [HL.out];omega] at h1;exact h1.next
        clear hS hzero;go_wp2;go_roundg (emp ids)
        case measure=>omega
        case rel=>exact ⟨Q,ids,rfl,rfl,HS.out,R+1,HMN.out⟩
     .have hEb:decide (((emp ids:Nat):Int)>0)=false:=jK (by omega);have HS:=jp hS;clear hS;go_wp2;go_ret;obtain ⟨s1, -,s3, -, -,s6,s7,s8,s9⟩:=HS.out
      have hQz:∀x∈Q,x=0:=fun x hx=>by
       have h1:=(GW s7).1 x hx;have h2:=s7 x hx;omega
      refine ⟨_,CG ids,rfl,hbel0.trans s1,⟨?_,fun g hg=>?_⟩,?_,?_,?_,HFIN.out ids Q R hQz HM.out⟩
      .have:=Ap.of_owns s3;unfold Cl;rw [Kv,s6] at *;exact this
      .rw [<-s6] at hg;have:=(World.ownsRow.lt s3 g hg).1;have:=hbel0.size;omega
      .rw [Kv,s6];omega
      .intro x hx;obtain ⟨y,hy,rfl⟩:=List.mem_map.1 hx;refine ⟨?_,Cd,Cd⟩;rcases s8 y hy with h|h
       .exact absurd (List.countP_pos_iff.2 ⟨y,hy,jL h⟩) hE
       .exact h
      .intro _;exact Or.inr (by rw [Kv,s6])
end Go.Proofs.YtpapdkhjdelfcaaGreat
