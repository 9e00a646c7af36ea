import Derived.Test.YtpapdkhjdelfcaaGreatLBY
namespace Go.Proofs.YtpapdkhjdelfcaaGreat
open Go.RowKit
set_option maxRecDepth 100000
set_option maxHeartbeats 4000000
theorem ZaJ (s:ByteArray) (i j:Nat):(s.extract i j).data.toList=(s.data.toList.drop i).take (j - i):=by
 rw [ByteArray.data_extract];simp [List.extract_eq_take_drop]
theorem Zbq (g f n k:Nat) (a:ByteArray):AK (Et g f n k a)=(({data:=#[65,1]}:ByteArray)++Zaa [(g:Int),(f:Int),(n:Int),(k:Int)] ⟨#[52,49,50,50]⟩ 4++a).data.toList:=by
 have e:Et g f n k a=Az (({data:=#[65,1]}:ByteArray)++Zaa [(g:Int),(f:Int),(n:Int),(k:Int)] ⟨#[52,49,50,50]⟩ 4++a).data.toList:=by
  have b:Zaa [(g:Int),(f:Int),(n:Int),(k:Int)] ⟨#[52,49,50,50]⟩ 4=(((ByteArray.empty++DF (g:Int) 4)++DF (f:Int) 1)++DF (n:Int) 2)++DF (k:Int) 2:=rfl;have c:(ByteArray.empty).data.toList=[]:=rfl;have d:Az [65,1]=Az [65]++Ax 1 (8 * 1):=rfl;have i:Az []=[]:=rfl;rw [b];simp only [ByteArray.data_append,Array.toList_append,WH,Zam,c,d,i];unfold Et DB;simp only [List.append_assoc,List.nil_append]
 rw [e,ZaP]
theorem Za3 (k:Nat) (h:k<256):AK (DB k)=[65,UInt8.ofNat k]:=by
 have e:DB k=Az [65,UInt8.ofNat k]:=by
  unfold DB;show _=BT 65++(BT (UInt8.ofNat k)++[]);rw [List.append_nil]
  have:BT (UInt8.ofNat k)=Ax k (8 * 1):=by
   unfold BT;rw [UInt8.toNat_ofNat',Nat.mod_eq_of_lt h]
  rw [this];rfl
 rw [e,ZaP]
theorem ZaB (l:List UInt8) (k:Nat) (_h:48 * k<=l.length):(Ai l).extract (48 * k) l.length=Ai (l.drop (48 * k)):=by
 rw [<-Zbd ((Ai l).extract (48 * k) l.length),ZaJ,Zau,jR (by rw [jh];exact jH _)]
structure Zb2 (q:ByteArray) (h fo cg cf mi:Nat):Prop where
 h:BQ (q.extract 1 5).data.toList=(h:Int)
 fo:∀(k:5<q.size),(q[5]'k).toNat=fo
 cg:BQ (q.extract 6 10).data.toList=(cg:Int)
 cf:∀(k:10<q.size),(q[10]'k).toNat=cf
 mi:BQ (q.extract 11 13).data.toList=(mi:Int)
theorem ZaT (m:List UInt8) (k:Nat) (h:k<m.length) (a:k<(Ai m).size):((Ai m)[k]'a).toNat=Zab ((m.drop k).take 1):=by
 have e:(m.drop k).take 1=[m[k]]:=by
  rw [List.drop_eq_getElem_cons h];rfl
 rw [e,Zbb];rfl
theorem Zci {l m:List UInt8} (h:CQ l=some m) (b:m.length=13):∃c d cg cf f,Zb2 (Ai m) c d cg cf f/\∀g:0<(Ai m).size,F0 l=if ((Ai m)[0]'g).toNat=81 then some (c,d,cg,cf,f) else none:=by
 refine ⟨Zab ((m.drop 1).take 4),Zab ((m.drop 5).take 1),Zab ((m.drop 6).take 4),Zab ((m.drop 10).take 1),Zab ((m.drop 11).take 2),⟨?_,fun k=>ZaT m 5 jo k,?_,fun k=>ZaT m 10 jo k,?_⟩,?_⟩
 .rw [ZaJ,Zau,ZaW]
 .rw [ZaJ,Zau,ZaW]
 .rw [ZaJ,Zau,ZaW]
 .intro g;rw [Za1 h,ZaT m 0 jo]
  have e:(m.drop 0).take 1=[m[0]'jo]:=by
   rw [List.drop_eq_getElem_cons jo];rfl
  rw [List.drop_zero] at e;rw [List.drop_zero,e,Zbb];by_cases a:(m[0]'jo).toNat=81
  .have:m[0]'jo=81:=UInt8.toNat_inj.1 a;rw [if_pos a,if_pos ⟨b,by rw [this]⟩]
  .rw [if_neg a,if_neg (fun k=>a (by have:=k.2;injection this with this _;rw [this];rfl))]
theorem ZaM {fm g:Nat} {c:Ac} {B:List BK} {E:List EI} {l:List UInt8} (h:F0 l=none):GO fm g c B E l=[]:=by
 unfold GO;rw [h]
theorem ZbK {fm g:Nat} {c:Ac} {B:List BK} {E:List EI} {l:List UInt8} {h a cg cf b:Nat} (d:F0 l=some (h,a,cg,cf,b)):GO fm g c B E l=Hu (Ef fm g c B E h a cg cf b):=by
 unfold GO;rw [d]
theorem ZaD (a b c d:Int):(Zaa [a,b,c,d] ⟨#[52,49,50,50]⟩ 4).size=9:=by
 show ((((ByteArray.empty++DF a 4)++DF b 1)++DF c 2)++DF d 2).size=9;simp only [jY,Zae];rfl
theorem Zcl (vs:Value) (c:Ac) (B:List BK) (gen speaks:Int) (frame:ByteArray) (w:World) (hv:DQ w vs c B gen) (hB:AH B) (hg:0<=gen/\gen<=70000) (hmk:(An c B).length<=65536) (hs1:0<=speaks) (hs3:speaks<=3) (hf:frame.size<=1099511627776):
  Calls Tryz.prog 42 #[vs,.int .i64 speaks,.string frame] w (En w (TQ (Ai (GO speaks.toNat gen.toNat c B (An c B) frame.data.toList)))):=by
 obtain ⟨R,hR⟩:∃R,R=Ai (GO speaks.toNat gen.toNat c B (An c B) frame.data.toList):=⟨_,rfl⟩;rw [<-hR];have HR:=jp hR;clear hR;have hun:=ZbL frame w hf;have hse:=fun (s:ByteArray) wx (h:s.size<=20000000)=>ZaH s wx (by omega)
 rcases hop:CQ frame.data.toList with _|m
 .have HE:Hid (R=ByteArray.empty):=by
   show _=_;rw [HR.out,ZaM (VF hop)];rfl
  clear HR hse
  unfold ZaO at hun
  rw [hop] at hun
  go_enter Tryz.func42,Tryz.ntmps42
  go_wp2_with fail
  refine hun.mono ?_
  rintro e w1 ⟨q,ok,rfl,hb1,hok, -⟩
  obtain rfl:ok=false:=by
   cases ok
   .rfl
   .obtain ⟨m,hm⟩:=hok.1 rfl;cases hm
  clear hok hun
  go_wp2
  go_ret
  exact ⟨_,rfl,hb1,HE.out.symm⟩
 unfold ZaO at hun;rw [hop] at hun
 have hun2 : Calls Tryz.prog 74 #[.string frame] w (fun e w' => e = .returned (.tuple #[.string (Ai m), .bool true]) /\ Aa w w') := hun.mono (by
   rintro e w' ⟨a, b, rfl, hb, h1, h2⟩
   have e1 : b = true := h1.2 ⟨m, rfl⟩
   have e2 : a = Ai m := h2 m rfl
   rw [e1, e2]
   exact ⟨rfl, hb⟩)
 clear hun;have hqs:(Ai m).size=m.length:=NG m;by_cases h13:m.length=13
 rotate_left
 .have h13':(((Ai m).size:Int) !=13)=true:=by rw [bne_iff_ne,hqs];omega
  have HE:Hid (R=ByteArray.empty):=by
   show _=_;rw [HR.out,ZaM (by rw [Za1 hop,if_neg (fun k=>h13 k.1)])];rfl
  generalize Ai m=q at *;clear HR hse hop;go_enter Tryz.func42,Tryz.ntmps42;go_wp2_with fail;refine hun2.mono ?_;rintro e w1 ⟨rfl,hb1⟩;clear hun2;go_wp2;go_ret;exact ⟨_,rfl,hb1,HE.out.symm⟩
 obtain ⟨hh,fo,cg,cf,mi,hQ,hqp⟩:=Zci hop h13;rw [h13] at hqs;generalize Ai m=q at *;have h13a:13<=q.size:=by omega
 have h13b:q.size<=13:=by omega
 have h13':((q.size:Int) !=13)=false:=by rw [jc];omega
 clear hop h13;have hb0:=D4 q 0 (by omega);have hb5:=D4 q 5 (by omega);have hb10:=D4 q 10 (by omega);by_cases hQ0:(q[0]'(by omega)).toNat=81
 rotate_left
 .have hQb:(((q[0]'(by omega)).toNat:Int) !=81)=true:=by rw [bne_iff_ne];omega
  have HE:Hid (R=ByteArray.empty):=by
   show _=_;rw [HR.out,ZaM (by rw [hqp (by omega),if_neg hQ0])];rfl
  clear HR hse hqp hQ;go_enter Tryz.func42,Tryz.ntmps42;go_wp2_with fail;refine hun2.mono ?_;rintro e w1 ⟨rfl,hb1⟩;clear hun2;go_wp2;go_ret;exact ⟨_,rfl,hb1,HE.out.symm⟩
 have hQb:(((q[0]'(by omega)).toNat:Int) !=81)=false:=by rw [jc];omega
 have hqp:=hqp (by omega);rw [if_pos hQ0] at hqp;obtain ⟨fm,rfl⟩:=jM hs1;obtain ⟨g,rfl⟩:=jM hg.1
 have HS:Hid (R=Ai (Hu (Ef fm g c B (An c B) hh fo cg cf mi))):=by
  show _=_;rw [HR.out,ZbK hqp];rfl
 clear HR hqp;have hz1:(q.extract 1 5).size=4:=by simp;omega
 have hz2:(q.extract 6 10).size=4:=by simp;omega
 have hz3:(q.extract 11 13).size=2:=by simp;omega
 have n1:=Jx _ hz1;have n2:=Jx _ hz2;have n3:=Kg _ 2 (Nat.le_of_eq hz3);have hn1:=fun wx=>Fu (q.extract 1 5) wx (by omega)
 have hn2:=fun wx=>Fu (q.extract 6 10) wx (by omega)
 have hn3:=fun wx=>Fu (q.extract 11 13) wx (by omega)
 rw [hQ.h] at n1 hn1;rw [hQ.cg] at n2 hn2;rw [hQ.mi] at n3 hn3;have h5:=hQ.fo (by omega);have h10:=hQ.cf (by omega)
 have hmi:mi<=65535:=by
  have:(mi:Int)<65536:=by simpa using n3.2
  omega
 have hand:bits .and .i64 ((q[5]'(by omega)).toNat:Int) (fm:Int)=((fo &&& fm:Nat):Int):=by rw [h5];exact Oi fo fm (by omega) (by omega)
 have hf3:fo &&& fm<=3:=jX Nat.and_le_right (by omega);have H10:=jp h10;clear hQ n3 hQ0 h5 h10;generalize hfq:fo &&& fm=f at *;have HFQ:=jp hfq;clear hfq;by_cases hf0:f=0
 .subst hf0
  have HE:Hid (R=Ai (Zad [65,2])):=by
   show _=_;rw [HS.out];unfold Ef;rw [HFQ.out,if_pos rfl];unfold Hu;rw [if_neg (by decide),Za3 2 (by decide)];rfl
  have hs2:=fun wx=>hse ⟨#[65,2]⟩ wx (by decide)
  have hf0':(((0:Nat):Int)==0)=true:=rfl;clear hse hv hmk;go_enter Tryz.func42,Tryz.ntmps42;go_wp2_with fail;refine hun2.mono ?_;rintro e w1 ⟨rfl,hb1⟩;go_wp2_with fail;refine (hn1 _).mono ?_;rintro e w2 ⟨rfl,rfl⟩;go_wp2_with fail;refine (hn2 _).mono ?_;rintro e w2 ⟨rfl,rfl⟩;go_wp2_with fail;refine (hn3 _).mono ?_;rintro e w2 ⟨rfl,rfl⟩;go_wp2_with fail;refine (hs2 _).mono ?_;rintro e w5 ⟨t,rfl,hb5,ht⟩
  have HT:Hid (t=R):=by
   show t=R;rw [HE.out];exact ht
  clear ht;go_wp2;go_ret;exact ⟨_,rfl,by (repeat (first|exact jD _|assumption|refine jA ?_|refine jB ?_|refine jC ?_|refine Aa.step_set ?_ (by simp <;>omega) _|refine jE ?_ (by assumption))),HT.out⟩
 have hf0':((f:Int)==0)=false:=by rw [jI];omega
 have hzero:g=0\/hh=g->Hid (R=Ai (Zad [65,0])):=fun hor=>by
  show _=_;rw [HS.out];unfold Ef;rw [HFQ.out,if_neg hf0,if_pos hor];unfold Hu;rw [if_neg (by decide),Za3 0 (by decide)];rfl
 rcases hv with ⟨rfl,hgz⟩|⟨p,E,rfl,hSt,hOK,hWW,hte,hgn⟩
 .have HE:=hzero (Or.inl (by omega));have hs2:=fun wx=>hse ⟨#[65,0]⟩ wx (by decide)
  clear hzero hse;go_enter Tryz.func42,Tryz.ntmps42;go_wp2_with fail;refine hun2.mono ?_;rintro e w1 ⟨rfl,hb1⟩;clear hun2;go_wp2_with fail;refine (hn1 _).mono ?_;rintro e w2 ⟨rfl,rfl⟩;go_wp2_with fail;refine (hn2 _).mono ?_;rintro e w2 ⟨rfl,rfl⟩;go_wp2_with fail;refine (hn3 _).mono ?_;rintro e w2 ⟨rfl,rfl⟩;clear hn1 hn2 hn3;go_wp2_with fail;refine (hs2 _).mono ?_;rintro e w5 ⟨t,rfl,hb5,ht⟩
  have HT:Hid (t=R):=by
   show t=R;rw [HE.out];exact ht
  clear ht;go_wp2;go_ret;exact ⟨_,rfl,by (repeat (first|exact jD _|assumption|refine jA ?_|refine jB ?_|refine jC ?_|refine Aa.step_set ?_ (by simp <;>omega) _|refine jE ?_ (by assumption))),HT.out⟩
 have c6:w.cell? ⟨p,6,none⟩=some (.int .i64 (g:Int)):=by
  obtain ⟨vB,vE,_,c6,_⟩:=hSt;exact c6
 by_cases hhas:hh=g
 .have HE:=hzero (Or.inr hhas);have hs2:=fun wx=>hse ⟨#[65,0]⟩ wx (by decide)
  have hhas':((hh:Int)==(g:Int))=true:=by rw [beq_iff_eq];omega
  clear hzero hse;go_enter Tryz.func42,Tryz.ntmps42;go_wp2_with fail;refine hun2.mono ?_;rintro e w1 ⟨rfl,hb1⟩;have c6':=hb1.cell c6;clear hun2;go_wp2_with fail;refine (hn1 _).mono ?_;rintro e w2 ⟨rfl,rfl⟩;go_wp2_with fail;refine (hn2 _).mono ?_;rintro e w2 ⟨rfl,rfl⟩;go_wp2_with fail;refine (hn3 _).mono ?_;rintro e w2 ⟨rfl,rfl⟩;clear hn1 hn2 hn3;go_wp2_with fail;refine (hs2 _).mono ?_;rintro e w5 ⟨t,rfl,hb5,ht⟩
  have HT:Hid (t=R):=by
   show t=R;rw [HE.out];exact ht
  clear ht;go_wp2;go_ret;exact ⟨_,rfl,by (repeat (first|exact jD _|assumption|refine jA ?_|refine jB ?_|refine jC ?_|refine Aa.step_set ?_ (by simp <;>omega) _|refine jE ?_ (by assumption))),HT.out⟩
 have hhas':((hh:Int)==(g:Int))=false:=by rw [jI];omega
 have hg0:g≠0:=by omega
 have hei:=Za8 hte hB hOK.2.2.2.2.1;have him:=fun (ft:Int) wx (b:Aa w wx) (h:1<=ft/\ft<=2)=>Zbg p c (g:Int) B E ft wx (hSt.later b) hOK ⟨by omega,by omega⟩ hWW h (by omega)
 simp only [hei] at him;have hlen:∀f2:Nat,(BJ f2 g c B (An c B)).length<=16777216:=fun f2=>Py ((Ac.ok_iff c).1 hOK.1).1 hB.1 hmk
 have HAN:Hid (∀(ft k3:Nat),Dd cg cf f g=ft->k3=(if cg=g/\mi<countP (BJ ft g c B (An c B)).length then mi else 0)->R=Ai (Zad (({data:=#[65,1]}:ByteArray)++Zaa [(g:Int),(ft:Int),(countP (BJ ft g c B (An c B)).length:Int),(k3:Int)] ⟨#[52,49,50,50]⟩ 4++Ai (Fm (BJ ft g c B (An c B)) (k3:Int))).data.toList)):=fun ft k3 h1 h2=>by
  rw [HS.out]
  have e:Ef fm g c B (An c B) hh fo cg cf mi=(1,g,ft,countP (BJ ft g c B (An c B)).length,k3,Fm (BJ ft g c B (An c B)) (k3:Int)):=by
   unfold Ef;rw [HFQ.out,if_neg hf0,if_neg (by omega),h1,<-h2]
  rw [e];unfold Hu;rw [if_pos rfl];show Ai (AK (Et g ft _ k3 (Ai _))++Cn (CB (AK (Et g ft _ k3 (Ai _)))))=_;rw [Zbq];rfl
 clear hei hSt hOK hWW hte hzero HS HFQ;have hgi:Aj (g:Int):=⟨by omega,by omega⟩;obtain ⟨gb,HGB⟩:∃gb:Bool,Hid (gb=true↔f=3/\cg=g/\cf=1):=⟨decide (f=3/\cg=g/\cf=1),decide_eq_true_iff⟩;obtain ⟨ft,HFM⟩:∃ft,Hid (Dd cg cf f g=ft):=⟨_,rfl⟩
 have hft:1<=ft/\ft<=2:=by
  have:=HFM.out;unfold Dd at this;split at this
  .omega
  .split at this <;>omega
 have HF2:Hid ((1<f/\gb=false->gb=true->False)/\(gb=true->ft=1)/\(1<f->gb=false->ft=2)/\(¬1<f->gb=false/\ft=f)):=by
  have h1:=HFM.out;have h2:=HGB.out;unfold Dd at h1;cases gb
  .have h3:¬(f=3/\cg=g/\cf=1):=fun k=>by have:=h2.2 k;cases this
   refine ⟨fun _ k=>(by cases k),fun k=>(by cases k),fun k _=>?_,fun k=>⟨rfl,?_⟩⟩
   .split at h1
    .omega
    .rw [if_neg (fun k2=>h3 ⟨by omega,k2⟩)] at h1;exact h1.symm
   .rw [if_pos (by omega)] at h1;exact h1.symm
  .obtain ⟨k1,k2⟩:=h2.1 rfl;rw [if_neg (by omega),if_pos k2] at h1;exact ⟨fun k=>(by cases k.2),fun _=>h1.symm,fun _ k=>(by cases k),fun k=>by omega⟩
 go_enter Tryz.func42,Tryz.ntmps42;go_wp2_with fail;refine hun2.mono ?_;rintro e w1 ⟨rfl,hb1⟩;have c6':=hb1.cell c6;clear hun2;go_wp2_with fail;refine (hn1 _).mono ?_;rintro e w2 ⟨rfl,rfl⟩;go_wp2_with fail;refine (hn2 _).mono ?_;rintro e w2 ⟨rfl,rfl⟩;go_wp2_with fail;refine (hn3 _).mono ?_;rintro e w2 ⟨rfl,rfl⟩;clear hn1 hn2 hn3;go_upto_region 12 with fail
 go_cut [13] from 65 to 79 (fun v wc=>w1=wc/\v= .bool gb)
 case first=>
  clear him hlen hse HAN hf0' hhas';by_cases h3:f=3
  .have h3b:((f:Int)==3)=true:=by rw [beq_iff_eq];omega
   by_cases hc:cg=g
   .have hcb:((cg:Int)==(g:Int))=true:=by rw [beq_iff_eq];omega
    by_cases h1:cf=1
    .have h1b:(((q[10]'(by omega)).toNat:Int)==1)=true:=by rw [beq_iff_eq,H10.out];omega
     have HG:Hid (gb=true):=HGB.out.2 ⟨h3,hc,h1⟩;clear H10 HGB h3 hc h1 HF2 HFM;go_wp2_with fail;go_meet
     case rel=>exact ⟨rfl,by rw [HG.out]⟩
    .have h1b:(((q[10]'(by omega)).toNat:Int)==1)=false:=by rw [jI,H10.out];omega
     have HG:Hid (gb=false):=by show _=_;rw [Bool.eq_false_iff];exact fun k=>h1 (HGB.out.1 k).2.2
     clear H10 HGB h3 hc h1 HF2 HFM;go_wp2_with fail;go_meet
     case rel=>exact ⟨rfl,by rw [HG.out]⟩
   .have hcb:((cg:Int)==(g:Int))=false:=by rw [jI];omega
    have HG:Hid (gb=false):=by show _=_;rw [Bool.eq_false_iff];exact fun k=>hc (HGB.out.1 k).2.1
    clear H10 HGB h3 hc HF2 HFM;go_wp2_with fail;go_meet
    case rel=>exact ⟨rfl,by rw [HG.out]⟩
  .have h3b:((f:Int)==3)=false:=by rw [jI];omega
   have HG:Hid (gb=false):=by show _=_;rw [Bool.eq_false_iff];exact fun k=>h3 (HGB.out.1 k).1
   clear H10 HGB h3 HF2 HFM;go_wp2_with fail;go_meet
   case rel=>exact ⟨rfl,by rw [HG.out]⟩
 case rest=>
 obtain ⟨rfl,rfl⟩:=hcut;clear HGB H10;go_upto_region 13 with fail
 obtain ⟨bb,HBB⟩:∃bb:Bool,Hid (bb=(decide (1<f) && !gb)):=⟨_,rfl⟩;obtain ⟨fi,HFI⟩:∃fi:Int,Hid ((bb=true->2=fi)/\(bb=false->(f:Int)=fi)):=⟨if bb then 2 else (f:Int),(show _/\_ from ⟨fun k=>by rw [k];rfl,fun k=>by rw [k];rfl⟩)⟩;go_cut [85] from 80 to 85 (fun v wc=>w1=wc/\v= .bool bb)
 case first=>
  clear him hlen hse HAN hf0' hhas' HF2 HFM HFI;by_cases h1:1<f
  .have h1b:decide ((f:Int)>1)=true:=jL (by omega);cases gb
   all_goals
    rw [jL h1] at HBB;have HD:=jp HBB.out;clear HBB h1;go_wp2_with fail;go_meet
    case rel=>exact ⟨rfl,by rw [HD.out];rfl⟩
  .have h1b:decide ((f:Int)>1)=false:=jK (by omega);rw [jK h1] at HBB;have HD:=jp HBB.out;clear HBB h1;go_wp2_with fail;go_meet
   case rel=>exact ⟨rfl,by rw [HD.out];rfl⟩
 case rest=>
 obtain ⟨rfl,rfl⟩:=hcut;go_upto_if 85 with fail
 go_cut [10] (fun v wc=>w1=wc/\v= .int .i64 fi)
 case first=>
  clear him hlen hse HAN hf0' hhas' HF2 HFM HBB;cases bb
  .have HW:=jp (HFI.out.2 rfl);clear HFI;go_wp2_with fail;go_meet
   case rel=>exact ⟨rfl,by rw [<-HW.out]⟩
  .have HW:=jp (HFI.out.1 rfl);clear HFI;go_wp2_with fail;go_meet
   case rel=>exact ⟨rfl,by rw [<-HW.out]⟩
 case rest=>
 obtain ⟨rfl,rfl⟩:=hcut;go_upto_if 86 with fail
 go_cut [10] (fun v wc=>w1=wc/\v= .int .i64 (ft:Int))
 case first=>
  have HV:Hid ((gb=true->(1:Int)=(ft:Int))/\(gb=false->fi=(ft:Int))):=by
   obtain ⟨-,k1,k2,k3⟩:=HF2.out;refine ⟨fun k=>by rw [k1 k];rfl,fun k=>?_⟩;have hb:=HBB.out;rw [k] at hb;by_cases h1:1<f
   .rw [jL h1] at hb;rw [k2 h1 k];exact (HFI.out.1 hb).symm
   .rw [jK h1] at hb;rw [(k3 h1).2];exact (HFI.out.2 hb).symm
  clear him hlen hse HAN hf0' hhas' HF2 HFM HBB HFI;cases gb
  .have HW:=jp (HV.out.2 rfl);clear HV;go_wp2_with fail;go_meet
   case rel=>exact ⟨rfl,by rw [HW.out]⟩
  .have HW:=jp (HV.out.1 rfl);clear HV;go_wp2_with fail;go_meet
   case rel=>exact ⟨rfl,by rw [<-HW.out]⟩
 case rest=>
 obtain ⟨rfl,rfl⟩:=hcut;clear HF2 hhas' hf0' HBB HFI;go_wp2_with fail;refine (him (ft:Int) _ (by (repeat (first|exact jD _|assumption|refine jA ?_|refine jB ?_|refine jC ?_|refine Aa.step_set ?_ (by simp <;>omega) _|refine jE ?_ (by assumption)))) (by omega)).mono ?_;rintro e w5 ⟨t,rfl,hb5',ht⟩;have ht':t=Ai (BJ ft g c B (An c B)):=by have e:=ht;rwa [Int.toNat_natCast] at e
 have hl:=hlen ft;have HAN1:=jp (HAN.out ft);have HTZ:Hid (t.size=(BJ ft g c B (An c B)).length):=by show _=_;rw [ht',NG]
 have htl:t.size<=16777216:=by rw [HTZ.out];exact hl
 have HEX:Hid (∀k3:Nat,48 * k3<=t.size->t.extract (48 * k3) t.size=Ai ((BJ ft g c B (An c B)).drop (48 * k3))):=fun k3 hk=>by
  rw [ht',NG,ZaB _ _ (by rw [<-HTZ.out];exact hk)]
 generalize BJ ft g c B (An c B)=L at *;clear ht ht' HAN him hlen hl;have d6:=hb5'.cell c6'
 have HCN:Hid ((((t.size:Int)+47) / 48)=(countP L.length:Int)):=by
  show _=_;rw [HTZ.out];unfold countP;omega
 obtain ⟨k3,hk3⟩:∃k3:Nat,k3=(if cg=g/\mi<countP L.length then mi else 0):=⟨_,rfl⟩;have HK3:=jp hk3
 have hkt:48 * k3<=t.size:=by
  rw [hk3,HTZ.out];split
  .rename_i h;have:=h.2;unfold countP at this;omega
  .omega
 have hk5:k3<=65535:=by rw [hk3];split <;>omega
 clear hk3;go_upto_region 19 with fail
 go_cut [104] (fun v wc=>w5=wc/\∃b:Bool,v= .bool b/\Hid (b=false↔(cg=g/\mi<countP L.length)))
 case first=>
  cases hqg:((cg:Int) !=(g:Int))
  .have HQE:Hid (cg=g):=by have:=jc.1 hqg;show _=_;omega
   by_cases hkn:(mi:Int)<((t.size:Int)+47) / 48
   .have hkb:decide (((t.size:Int)+47) / 48<=(mi:Int))=false:=jK (by omega);have HL:Hid (mi<countP L.length):=by have:=HCN.out;show _<_;omega
    go_wp2_with fail;go_meet
    case rel=>exact ⟨rfl,_,rfl,by first|exact ⟨fun _=>⟨HQE.out,HL.out⟩,fun _=>rfl⟩|exact ⟨fun _=>⟨HQE.out,HL.out⟩,fun _=>hkb⟩⟩
   .have hkb:decide (((t.size:Int)+47) / 48<=(mi:Int))=true:=jL (by omega);have HL:Hid (¬mi<countP L.length):=by have:=HCN.out;show ¬_<_;omega
    go_wp2_with fail;go_meet
    case rel=>exact ⟨rfl,_,rfl,by first|exact ⟨fun h=>(by cases h),fun h=>absurd h.2 HL.out⟩|exact ⟨fun h=>(by rw [hkb] at h;cases h),fun h=>absurd h.2 HL.out⟩⟩
  .have hqe:cg≠g:=fun e=>by rw [e] at hqg;simp at hqg
   clear HCN HTZ HEX HAN1;go_wp2_with fail;go_meet
   case rel=>exact ⟨rfl,_,rfl,⟨fun h=>(by cases h),fun h=>absurd h.1 hqe⟩⟩
 case rest=>
  obtain ⟨rfl,b,rfl,HKK⟩:=hcut;go_upto_if 104 with fail
  go_cut [12] (fun v12 wc=>w5=wc/\v12= .int .i64 (k3:Int))
  case first=>
   cases b
   .have HM:Hid (mi=k3):=by show _=_;rw [HK3.out,if_pos (HKK.out.1 rfl)]
    go_wp2_with fail;go_meet
    case rel=>exact ⟨rfl,by rw [HM.out]⟩
   .have HM:Hid ((0:Nat)=k3):=by show _=_;rw [HK3.out,if_neg (fun h=>by have:=HKK.out.2 h;cases this)]
    go_wp2_with fail;go_meet
    case rel=>exact ⟨rfl,by rw [<-HM.out];rfl⟩
  case rest=>
   obtain ⟨rfl,rfl⟩:=hcut;clear HKK;go_upto_region 22 with fail
   have hpe:=HEX.out k3 hkt;have hpz:(t.extract (48 * k3) t.size).size=t.size - 48 * k3:=by simp
   have HPC:Hid ((¬48<t.size - 48 * k3->t.extract (48 * k3) t.size=Ai (Fm L (k3:Int)))/\(48<t.size - 48 * k3->(t.extract (48 * k3) t.size).extract 0 48=Ai (Fm L (k3:Int)))):=by
    have e1:Fm L (k3:Int)=(L.drop (48 * k3)).take 48:=by
     unfold Fm;rw [if_neg (by omega)];rfl
    refine ⟨fun h=>?_,fun h=>?_⟩
    .rw [hpe,e1,jR (by rw [jh,<-HTZ.out];omega)]
    .rw [hpe,e1,Zay];rfl
   have hps:(Ai (Fm L (k3:Int))).size<=48:=by rw [NG];exact PM _ _
   clear hpe HEX;generalize t.extract (48 * k3) t.size=piece at *;generalize htc:Ai (Fm L (k3:Int))=pcT at *;have HTC:=jp htc;clear htc;by_cases h48:48<t.size - 48 * k3
   all_goals
    go_upto_if 111 with fail
    all_goals
     go_cut [16] (fun v wc=>w5=wc/\v= .string pcT)
     case first=>
      go_wp2_with fail
      all_goals
       go_meet
       case rel=>exact ⟨rfl,by first|rw [HPC.out.1 h48]|rw [<-HPC.out.2 h48]⟩
     case rest=>
      obtain ⟨rfl,rfl⟩:=hcut;go_wp2_with fail;refine (Zas _ 4 _ _ [(g:Int),(ft:Int),((t.size:Int)+47) / 48,(k3:Int)] _ rfl (by decide) KH (by intro t ht;match t,ht with|0,_=>simp|1,_=>simp|2,_=>simp|3,_=>simp) (Aj.four hgi ⟨by omega,by omega⟩ ⟨by omega,by omega⟩ ⟨by omega,by omega⟩)).mono ?_;rintro e w7 ⟨hd,rfl,hb7,hhh⟩;have hh2:hd=Zaa [(g:Int),(ft:Int),((t.size:Int)+47) / 48,(k3:Int)] ⟨#[52,49,50,50]⟩ 4:=hhh;have hhz:hd.size=9:=by rw [hh2,ZaD]
      have HFIN:Hid (Ai (Zad (({data:=#[65,1]}:ByteArray)++hd++pcT).data.toList)=R):=by
       show _=_;rw [HAN1.out k3 HFM.out HK3.out,hh2,HCN.out,HTC.out]
      clear hhh hh2;go_wp2_with fail;refine (hse (({data:=#[65,1]}:ByteArray)++hd++pcT) _ (by simp only [jY,show (({data:=#[65,1]}:ByteArray)).size=2 from rfl];omega)).mono ?_;rintro e w8 ⟨t8,rfl,hb8,ht8⟩
      have HT8:Hid (t8=R):=by
       show t8=R;rw [<-HFIN.out];exact ht8
      clear ht8;go_wp2;go_ret;exact ⟨_,rfl,by (repeat (first|exact jD _|assumption|refine jA ?_|refine jB ?_|refine jC ?_|refine Aa.step_set ?_ (by simp <;>omega) _|refine jE ?_ (by assumption))),HT8.out⟩
end Go.Proofs.YtpapdkhjdelfcaaGreat
