import Derived.Test.YtpapdkhjdelfcaaGreatMBF
namespace Go.Proofs.YtpapdkhjdelfcaaGreat
open Go.RowKit
set_option maxRecDepth 100000
set_option maxHeartbeats 4000000
def Zcy (E:List EN) (id:jt):Nat:=E.countP fun x=>x.1.toList==id.toList
theorem Zer (E:List EN) (id:jt) (q:Nat) (h:q<E.length):Zcy (E.take (q+1)) id=Zcy (E.take q) id+if E[q].1.toList==id.toList then 1 else 0:=by
 unfold Zcy;rw [jQ h,List.countP_append,List.countP_singleton]
def ZcL (c:Ac) (E:List EN) (b:BK):Prop:=(EV c->(Zcy E b.1:Int)=Ei c * b.2)/\(b.2=0->Zcy E b.1=0)
def ZcC (a b:EN):Prop:=wv a.2.1 a.2.2<wv b.2.1 b.2.2\/((a.2.1=b.2.1/\a.2.2=b.2.2)/\AO b.1 a.1=false)
def Zcw (c:Ac) (a:Int) (B:List BK) (E:List EN):Prop:=c.OK/\(1<=a/\a<=1073741824)/\(∀j (h:j<B.length),ZcL c E B[j])/\(¬EV c->(0<As B/\(E.length:Int)=c.slots)\/(As B=0/\E=[]))/\(EV c->∀j (h:j+1<E.length),ZcC E[j] E[j+1])
theorem ZcW {p:Prop} (h:¬p):Co p false:=⟨fun e=>(by cases e),fun e=>absurd e h⟩
theorem Zdg {p:Prop} (h:p):Co p true:=⟨fun _=>h,fun _=>rfl⟩
def Zc6 (pb:Bool) (m:Nat) (a b:Int):Prop:=(pb=true/\(m:Int)≠a)\/(b=0/\0<m)
theorem ZeH {c:Ac} {E:List EN} {id:jt} {b a:Int} {m:Nat} {pb:Bool} (f:Co (EV c) pb) (k:m=Zcy E id) (g:a=Ei c) {y:Bool} (l:y=true↔Zc6 pb m (a * b) b):y=true↔¬ZcL c E (id,b):=by
 rw [l];unfold ZcL Zc6;simp only;rw [<-k,<-g];constructor
 .rintro (⟨d,i⟩|⟨d,i⟩) ⟨n,o⟩
  .exact i (n (f.1 d))
  .have:=o d;omega
 .intro h;by_cases d:pb=true/\(m:Int)≠a * b
  .exact Or.inl d
  .by_cases i:b=0/\0<m
   .exact Or.inr i
   .refine absurd ⟨fun p=>?_,fun q=>?_⟩ h
    .by_cases e:(m:Int)=a * b
     .exact e
     .exact absurd ⟨f.2 p,e⟩ d
    .by_cases e:m=0
     .exact e
     .exact absurd ⟨q,jo⟩ i
theorem ZdR {m:Nat} {a b:Int} {pb c d f y:Bool} (g:((m:Int) !=a)=c) (i:(b==0)=d) (k:decide (0<m)=f) (l:y=((pb && c)||(d && f))):y=true↔Zc6 pb m a b:=by
 subst g i k l;simp [Zc6]
theorem ZeZ (a b:jt):AO b a=(!(Op.bytesLess a.toList b.toList) && !(a.toList==b.toList)):=by
 cases h:Op.bytesLess a.toList b.toList
 .cases e:(a.toList==b.toList)
  .cases k:AO b a
   .have:=Pi (a:=a) (b:=b) h k;rw [FE.2 this] at e;cases e
   .rfl
  .rw [FE.1 e,Ln];rfl
 .rw [Qj (a:=a) (b:=b) h];rfl
theorem Zdz {f g:jt} {a b c d:Int} {y:Bool} (l:y=true↔¬(wv a b<wv c d)/\(¬(a=c/\b=d)\/AO g f=true)):y=true↔¬ZcC (f,a,b) (g,c,d):=by
 rw [l];unfold ZcC;simp only;constructor
 .rintro ⟨m,i⟩ (k|⟨n,o⟩)
  .exact m k
  .rcases i with i|i
   .exact i n
   .rw [o] at i;cases i
 .intro h;refine ⟨fun k=>h (Or.inl k),?_⟩;by_cases e:a=c/\b=d
  .right;cases p:AO g f
   .exact absurd (Or.inr ⟨e,p⟩) h
   .rfl
  .exact Or.inl e
theorem Zdv (p:Nat) (c:Ac) (gen:Int) (B:List BK) (E:List EN) (w:jj) (h:Bz w p c gen B E) (hfit:c.Fit) (hB:AL B) (hE:E.length<=140000) (hW:∀x∈E,Af x.2.1/\Af x.2.2):
  Calls Tryz.prog 99 #[.pointer (some ⟨p,0,none⟩)] w (Ew w (Co (Zcw c gen B E))):=by
 have h0:=h;obtain ⟨vB,vE,⟨c0,c1,c2,c3,c4,c5⟩,c6,c7,c8,hpB,hpE⟩:=h;have hm:=Mb c w hfit;simp only [Ac.cells] at hm
 obtain ⟨aoB,capB,rfl,hcB⟩:∃ao cap,vB= .slice ao B.length cap/\∀j (hj:j<B.length),∃g,ao=some ⟨g,0,none⟩/\w.cell? ⟨g,j * 2,none⟩=some (.string B[j].1)/\w.cell? ⟨g,j * 2+1,none⟩=some (.int .i64 B[j].2):=by
  rcases hpB.form with ⟨rfl,rfl⟩|⟨g,cap,rfl,_,_,hc⟩
  .exact ⟨_,_,rfl,fun j hj=>by simp at hj⟩
  .exact ⟨_,_,rfl,fun j hj=>⟨g,rfl,hc j hj⟩⟩
 obtain ⟨ao,cap,rfl,hc⟩:=hpE.off;clear hpB hpE;go_enter Tryz.func99,Tryz.ntmps99;go_wp2_with fail;refine hm.mono ?_;rintro e w1 ⟨ok,rfl,hb1,hok⟩;clear hm;have d6:=hb1.cell c6;cases ok
 .have HF:Hid (Co (Zcw c gen B E) false):=ZcW fun h=>(by have:=hok.2 h.1;cases this)
  clear hok;go_wp2;go_ret;exact ⟨_,rfl,jq,HF.out⟩
 .have hok':Hid c.OK:=hok.1 rfl;clear hok;by_cases hg1:gen<1
  .have HF:Hid (Co (Zcw c gen B E) false):=ZcW fun h=>(by have:=h.2.1.1;omega)
   go_wp2;go_ret;exact ⟨_,rfl,jq,HF.out⟩
  .by_cases hg2:1073741824<gen
   .have HF:Hid (Co (Zcw c gen B E) false):=ZcW fun h=>(by have:=h.2.1.2;omega)
    go_wp2;go_ret;exact ⟨_,rfl,jq,HF.out⟩
   .go_wp2_with fail;refine (Jq p c gen B E _ (h0.later hb1)).mono ?_;rintro e w2 ⟨pb,rfl,hb2,hpb⟩;have hbA:=hb1.trans hb2;have e0:=hbA.cell c0;have e2:=hbA.cell c2;have HG:Hid (1<=gen/\gen<=1073741824):=⟨by omega,by omega⟩;clear d6 hg1 hg2;have hP3:1<=c.points/\c.points<=3:=⟨hok'.out.2.2.2.2.2.1,hok'.out.2.2.2.2.2.2.1⟩;obtain ⟨hP1,hP2⟩:=hP3;go_upto_if 42 with fail
    go_cut [6] (fun v6 wc=>w2=wc/\∃per:Int,v6= .int .i64 per/\0<=per/\per<=3/\per=Ei c)
    case first=>
     by_cases halg:(c.alg==2)=true
     .have HEF:Hid (c.points=Ei c):=by show _=_;unfold Ei;rw [if_pos (by simpa using halg)]
      go_wp2;go_meet
      case rel=>exact ⟨rfl,_,rfl,by omega,by omega,HEF.out⟩
     .have halg':(c.alg==2)=false:=by simpa using halg
      have HEF:Hid (1=Ei c):=by show _=_;unfold Ei;rw [if_neg (by simpa using halg)]
      go_wp2;go_meet
      case rel=>exact ⟨rfl,_,rfl,by omega,by omega,HEF.out⟩
    case rest=>
     obtain ⟨rfl,per,rfl,hper1,hper2,hpe⟩:=hcut;have HPE:=jp hpe;clear hpe;have f7:=hbA.cell c7;have f8:=hbA.cell c8;go_wp2;go_loopg [4,7] B.length (fun r t i wr=>Aa w2 wr/\∃(tot:Int) (k:Nat),k<=B.length/\r=B.length - k/\t= .int .i64 tot/\i= .int .i64 k/\0<=tot/\tot<=6 * k/\Hid (tot=As (B.take k)/\∀j (h:j<B.length),j<k->ZcL c E B[j]))
     case atStart=>exact ⟨jD _,0,0,by omega,by omega,rfl,rfl,by omega,by omega,⟨rfl,fun j h hj=>(by omega)⟩⟩
     case round=>
      obtain ⟨hbo,tot,k,hk,hr,rfl,rfl,ht0,ht6,HGH⟩:=hrel;by_cases hlt:k<B.length
      .obtain ⟨gB,rfl,b0,b1⟩:=hcB k hlt;have b0w:=hbA.cell b0;have b1w:=hbA.cell b1;have b0':=hbo.cell b0w;have b1':=hbo.cell b1w;have f7':=hbo.cell f7;have f8':=hbo.cell f8;have hgood:=hB.2 _ (jJ hlt);have hk8:=hB.1;have HBN:Hid (¬ZcL c E B[k]->Co (Zcw c gen B E) false):=fun h=>ZcW fun hd=>h (hd.2.2.1 k hlt)
       have HBY : Hid (ZcL c E B[k] -> tot + B[k].2 = As (B.take (k + 1)) /\ ∀ j (h : j < B.length), j < k + 1 -> ZcL c E B[j]) := fun h => ⟨by rw [Lc B k hlt, HGH.out.1], fun j hj hjk => (by
         by_cases e : j = k
         . subst e; exact h
         . exact HGH.out.2 j hj (by omega))⟩
       generalize B[k]=bk at *;obtain ⟨idk,wt⟩:=bk;simp only at b0' b1' hgood b0w b1w;have HBY':Hid (ZcL c E (idk,wt)->tot+wt=As (B.take (k+1))/\∀j (h:j<B.length),j<k+1->ZcL c E B[j]):=HBY.out;clear HBY;obtain ⟨-, -,hw0,hw6⟩:=hgood;have hltb:decide ((k:Int)<(B.length:Int))=true:=jL (by omega);go_wp2;go_loopg [8,9] E.length (fun r n j wx=>Aa w2 wx/\∃(m q:Nat),q<=E.length/\r=E.length - q/\n= .int .i64 m/\j= .int .i64 q/\m<=q/\Hid (m=Zcy (E.take q) idk))
       case atStart=>exact ⟨hbo,0,0,by omega,by omega,rfl,rfl,by omega,rfl⟩
       case round=>
        obtain ⟨hbr,m,q,hq,hr',rfl,rfl,hmq,HM⟩:=hrel;have g7:=hbr.cell f7;have g8:=hbr.cell f8;have b0'':=hbr.cell b0w;have b1'':=hbr.cell b1w;by_cases hlt':q<E.length
        .obtain ⟨gE,off,rfl,s0,s1,s2⟩:=hc q hlt';have s0':=(hbA.trans hbr).cell s0
         have HS:Hid (Zcy (E.take (q+1)) idk=m+if E[q].1.toList==idk.toList then 1 else 0):=by
          show _=_;rw [Zer E idk q hlt',HM.out]
         clear HM;generalize E[q]=en at *;obtain ⟨ide,ehi,elo⟩:=en;simp only at s0';have HS':Hid (∀t,(ide.toList==idk.toList)=t->(m+if t then 1 else 0)=Zcy (E.take (q+1)) idk):=fun t ht=>by rw [<-ht];exact HS.out.symm
         clear HS;cases heq:(ide.toList==idk.toList)
         .go_wp2_with fail;go_quiet (fail);go_wp2;go_roundg (E.length - (q+1))
          case measure=>omega
          case rel=>exact ⟨jq,m,q+1,by omega,rfl,rfl,by go_num,by omega,HS'.out _ heq⟩
         .go_wp2_with fail;go_quiet (fail);go_wp2;go_roundg (E.length - (q+1))
          case measure=>omega
          case rel=>exact ⟨jq,m+1,q+1,by omega,rfl,by go_num,by go_num,by omega,HS'.out _ heq⟩
        .have hpw:0<=per * wt/\per * wt<=18:=by
          rcases (show per=0\/per=1\/per=2\/per=3 by omega) with rfl|rfl|rfl|rfl <;>omega
         obtain ⟨hpw1,hpw2⟩:=hpw
         have hm6:m<=140000:=by omega
         have HBI:Hid (∀y:Bool,(y=true↔Zc6 pb m (per * wt) wt)->(y=true↔¬ZcL c E (idk,wt))):=fun y hy=>ZeH hpb (by rw [HM.out,jR (by omega)]) HPE.out hy
         clear HM
         go_upto_region 18 with fail
         go_cut [114] (fun v wc=>Aa w2 wc/\∃x,v= .bool x/\(x=true↔¬ZcL c E (idk,wt)))
         case first=>
          cases pb
          all_goals cases hn:((m:Int) !=per * wt)
          all_goals cases hw:(wt==0)
          all_goals rcases (show (0<m/\decide (0<m)=true)\/(¬0<m/\decide (0<m)=false) from (by by_cases h:0<m;exact Or.inl ⟨h,jL h⟩;exact Or.inr ⟨h,jK h⟩)) with ⟨hm0,hmd⟩|⟨hm0,hmd⟩
          all_goals
           have HNN:=jp hn
           have HWW:=jp hw
           have HMD:=jp hmd
           clear hmd
           go_wp2
           go_meet
           case rel=>exact ⟨hbr,_,rfl,HBI.out _ (by first|exact ZdR (pb:=true) HNN.out HWW.out HMD.out rfl|exact ZdR (pb:=false) HNN.out HWW.out HMD.out rfl)⟩
         case rest=>
          obtain ⟨hbc,x,rfl,hxb⟩:=hcut
          have HXB:=jp hxb
          clear hxb HBI
          have z7:=hbc.cell f7
          have z1:=hbc.cell b1w
          cases x
          .have HGN:=jp (HBY'.out (Classical.byContradiction fun h=>by have:=HXB.out.2 h;cases this))
           clear HXB HBY'
           go_wp2
           go_roundg (B.length - (k+1))
           case measure=>omega
           case rel=>exact ⟨jq,tot+wt,k+1,by omega,rfl,rfl,by go_num,by omega,by omega,HGN⟩
          .have HF:=jp (HBN.out (HXB.out.1 rfl))
           clear HXB HBY' HBN
           go_wp2
           go_ret
           exact ⟨_,rfl,jq,HF.out⟩
      .have hokp:pb=false->¬EV c:=fun h1 h2=>by rw [hpb.2 h2] at h1;cases h1
       have f1':=hbo.cell (hbA.cell c1);have f8':=hbo.cell f8;have f7':=hbo.cell f7;have HSUM:Hid (tot=As B):=by show _=_;rw [HGH.out.1,jR (by omega)]
       have HFIN:Hid (∀j (h:j<B.length),ZcL c E B[j]):=fun j h=>HGH.out.2 j h (by omega)
       clear HGH;cases pb
       .have hnp:Hid (¬EV c):=hokp rfl;clear hokp hpb;by_cases ht:0<tot
        .have htd:decide (0<tot)=true:=jL ht;have ht0':(tot==0)=false:=by rw [jI];omega
         cases hE2:((E.length:Int)==c.slots)
         .have HF : Hid (Co (Zcw c gen B E) false) := ZcW fun h => (by
            have hne := jI.1 hE2
            have hs := HSUM.out
            rcases h.2.2.2.1 hnp.out with k | k
            . exact hne k.2
            . have := k.1; omega)
          go_wp2_with fail
          go_quiet (fail)
          go_wp2
          go_ret
          exact ⟨_,rfl,jq,HF.out⟩
         .have HE2:Hid ((E.length:Int)=c.slots):=beq_iff_eq.1 hE2;go_wp2_with fail;go_quiet (fail);go_wp2;go_ret;exact ⟨_,rfl,jq,Zdg ⟨hok'.out,HG.out,HFIN.out,fun _=>Or.inl ⟨by have:=HSUM.out;omega,HE2.out⟩,fun h=>absurd h hnp.out⟩⟩
        .have htd:decide (0<tot)=false:=jK ht;have ht0':(tot==0)=true:=by rw [beq_iff_eq];omega
         cases hE2:((E.length:Int)==0)
         .have HF : Hid (Co (Zcw c gen B E) false) := ZcW fun h => (by
            have hne := jI.1 hE2
            have hs := HSUM.out
            rcases h.2.2.2.1 hnp.out with k | k
            . have := k.1; omega
            . exact hne (by rw [k.2]; rfl))
          go_wp2_with fail
          go_quiet (fail)
          go_wp2
          go_ret
          exact ⟨_,rfl,jq,HF.out⟩
         .have HE2:Hid (E=[]):=by
           have h1:(E.length:Int)=0:=beq_iff_eq.1 hE2;exact jS (by omega)
          go_wp2_with fail
          go_quiet (fail)
          go_wp2
          go_ret
          exact ⟨_,rfl,jq,Zdg ⟨hok'.out,HG.out,HFIN.out,fun _=>Or.inr ⟨by have:=HSUM.out;omega,HE2.out⟩,fun h=>absurd h hnp.out⟩⟩
       .have hpt:Hid (EV c):=hpb.1 rfl;clear hokp hpb;go_wp2;go_loopg [10] E.length (fun r i wx=>Aa w2 wx/\∃(j:Nat),r=E.length - j/\i= .int .i64 ((j:Int)+1)/\Hid (∀i (h:i+1<E.length),i<j->ZcC E[i] E[i+1]))
        case atStart=>exact ⟨hbo,0,by omega,rfl,fun i h hi=>(by omega)⟩
        case round=>
         obtain ⟨hbr,j,hr',rfl,HU⟩:=hrel;have g8:=hbr.cell f8;by_cases hlt':j+1<E.length
         .obtain ⟨gE,off,rfl,s0,s1,s2⟩:=hc j (by omega);obtain ⟨gE',off',hao,v0,v1,v2⟩:=hc (j+1) hlt';simp only [Option.some.injEq,Addr.mk.injEq,and_true] at hao;obtain ⟨rfl,rfl⟩:=hao;have s0':=(hbA.trans hbr).cell s0;have s1':=(hbA.trans hbr).cell s1;have s2':=(hbA.trans hbr).cell s2;have v0':=(hbA.trans hbr).cell v0;have v1':=(hbA.trans hbr).cell v1;have v2':=(hbA.trans hbr).cell v2;have hpw:p<wr.heap.size:=jF g8;have hgw:gE<wr.heap.size:=jF s0';obtain ⟨we1,we2⟩:=hW _ (jJ (show j<E.length by omega));obtain ⟨wf1,wf2⟩:=hW _ (jJ hlt');have HUN:Hid (¬ZcC E[j] E[j+1]->Co (Zcw c gen B E) false):=fun h=>ZcW fun hd=>h (hd.2.2.2.2 hpt.out j hlt')
          have HUY : Hid (ZcC E[j] E[j + 1] -> ∀ i (h : i + 1 < E.length), i < j + 1 -> ZcC E[i] E[i + 1]) := fun h i hi hij => (by
            by_cases e : i = j
            . subst e; exact h
            . exact HU.out i hi (by omega))
          clear hc hcB s0 s1 s2 v0 v1 v2 HU hW;generalize E[j]=en at *;obtain ⟨ide,ehi,elo⟩:=en;generalize E[j+1]=en at *;obtain ⟨idf,fhi,flo⟩:=en;simp only at s0' s1' s2' v0' v1' v2' we1 we2 wf1 wf2;have HUY':Hid (ZcC (ide,ehi,elo) (idf,fhi,flo)->∀i (h:i+1<E.length),i<j+1->ZcC E[i] E[i+1]):=HUY.out;have HUN':Hid (¬ZcC (ide,ehi,elo) (idf,fhi,flo)->Co (Zcw c gen B E) false):=HUN.out;clear HUY HUN;go_wp2_with fail;refine (J7 ehi elo fhi flo _ we1 we2 wf1 wf2).mono ?_;rintro e w5 ⟨lss,rfl,hb5,hls⟩;have HLS:=jp hls;clear hls we1 we2 wf1 wf2;obtain ⟨hq5,hf5⟩:=hb5.cellsTo (wr.heap.size+1+1) (by simp);go_upto_region 29 with fail
          go_cut [198] (fun v wc=>Aa w2 wc/\∃x,v= .bool x/\(x=true↔¬ZcC (ide,ehi,elo) (idf,fhi,flo)))
          case first=>
           cases lss
           .cases h1:(ehi==fhi)
            all_goals cases h2:(elo==flo)
            all_goals cases h3:Op.bytesLess ide.toList idf.toList
            all_goals cases h4:(ide.toList==idf.toList)
            all_goals
             have H1:=jp h1;have H2:=jp h2;have H3:=ZeZ ide idf;rw [h3,h4] at H3;replace H3:=jp H3;go_wp2_with fail
             all_goals
              go_meet
              case rel => exact ⟨by exact jq, _, rfl, Zdz (by
                have a := H1.out
                have b := H2.out
                have hnl : ¬ (wv ehi elo < wv fhi flo) := fun h => by have := HLS.out.2 h; cases this
                rw [H3.out]
                simp only [beq_iff_eq, jI, ne_eq] at a b
                rw [and_iff_right hnl]
                simp [a, b])⟩
           .go_wp2;go_meet
            case rel=>exact ⟨jq,_,rfl,Zdz ⟨fun e=>(by cases e),fun e=>absurd (HLS.out.1 rfl) e.1⟩⟩
          case rest=>
           obtain ⟨hbc,x,rfl,hxu⟩:=hcut;have HXU:=jp hxu;clear hxu HLS;cases x
           .have HUJ:=jp (HUY'.out (Classical.byContradiction fun h=>by have:=HXU.out.2 h;cases this));clear HXU HUY' HUN';go_wp2;go_roundg (E.length - (j+1))
            case measure=>omega
            case rel=>exact ⟨hbc,j+1,rfl,by go_num,HUJ⟩
           .have HF:=jp (HUN'.out (HXU.out.1 rfl));clear HXU HUY' HUN';go_wp2;go_ret;exact ⟨_,rfl,jq,HF.out⟩
         .have HF:Hid (Co (Zcw c gen B E) true):=Zdg ⟨hok'.out,HG.out,HFIN.out,fun h=>absurd hpt.out h,fun _ i hi=>HU.out i hi (by omega)⟩;clear HU;go_wp2;go_ret;exact ⟨_,rfl,jq,HF.out⟩
end Go.Proofs.YtpapdkhjdelfcaaGreat
